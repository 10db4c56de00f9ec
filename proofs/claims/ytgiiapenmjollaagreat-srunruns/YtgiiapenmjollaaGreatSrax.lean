import Derived.Test.YtgiiapenmjollaaGreatSraw
namespace Go.Proofs.YtgiiapenmjollaaGreat
set_option linter.all false
set_option maxHeartbeats 40000000
set_option maxRecDepth 100000
open Go.RowKit
open Go.Value (int)
open Go.IntKind (i64)
theorem tU (k:Int) (N:Nat) (J4:k=(N:Int)) (us:List Va) (b cap:Nat) (w:World) (B:cu w b us) (hN:N<=1000) (mV:aQ us<=N) (hk:∀v∈us,1<=v.kind/\v.kind<=3) :
  Calls Tryz.prog 39 #[int i64 k,.slice (some ⟨b,0,none⟩) us.length cap] w fun e w'=>e=.returned (.slice (some ⟨w.heap.size,0,none⟩) N N)/\cu w' w.heap.size (eX (List.replicate N ag) 0 us)/\Bl w w':=by
 subst J4;exact tT N us b cap w B hN mV hk
theorem pd:∀(l:List Va) (l0:List Va) (fG:Nat),(dT l0 fG l).length=l0.length
 | [],l0,fG=>rfl
 | x::l,l0,fG=>by
  show (dT (eZ l0 fG x) (fG+aQ [x]) l).length=_
  rw [pd l,kC]
def newRow (g:Mg) (m:Me) (P C J:Option Addr) (p c k lb N:Nat):Array Value :=
 #[.pointer (some ⟨g.hb,0,none⟩),.pointer (some ⟨g.r,0,none⟩),.slice P m.params.length p,int i64 m.ret.kind,int i64 m.ret.cls,int i64 m.stack,int i64 m.locs,int i64 m.regs,.slice C m.code.length c,.slice J m.hands.length k,int i64 0,.slice (some ⟨lb,0,none⟩) N N,.slice none 0 0]
structure Az (g:Mg) (m:Me) (P C J:Option Addr) (p c k N:Nat) (us:List Va) (w:World) (q:Nat) (w':World):Prop where
 bl:Bl w w'
 own:w.heap.size<=q
 blk:w'.heap[q]?=some (.cells (newRow g m P C J p c k (w.heap.size+1+1) N) 94 (0,0))
 loc:cu w' (w.heap.size+1+1) (eX (List.replicate N ag) 0 us)
def Gy (g:Mg) (m:Me) (P C J:Option Addr) (p c k N:Nat) (us:List Va) (w:World) (e:Ending) (w':World):Prop:=∃q,e=.returned (.agg (fD q).toArray)/\Az g m P C J p c k N us w q w'
theorem CY (g:Mg) (m:Me) (P C J:Option Addr) (p c k N b cap:Nat) (us:List Va) (w:World) (h0:w.cell? ⟨g.r,0,none⟩=some (.pointer (some ⟨g.hb,0,none⟩))) (J4:m.locs=(N:Int)) (B:cu w b us) (hN:N<=1000) (mV:aQ us<=N) (hk:∀v∈us,1<=v.kind/\v.kind<=3) :
  Calls Tryz.prog 17 #[.pointer (some ⟨g.r,0,none⟩),iW m P C J p c k,.slice (some ⟨b,0,none⟩) us.length cap] w fun e w'=>Gy g m P C J p c k N us w e w':=by
 have RY:Hid (∀w',Bl w w'->Calls Tryz.prog 39 #[int i64 m.locs,.slice (some ⟨b,0,none⟩) us.length cap] w' fun e w2=>e=.returned (.slice (some ⟨w'.heap.size,0,none⟩) N N)/\cu w2 w'.heap.size (eX (List.replicate N ag) 0 us)/\Bl w' w2) :=
  fun w' hb=>tU m.locs N J4 us b cap w' (B.bl hb) hN mV hk
 have KT:∀(fn:Fn) (first cap:Array Value) (w:World),(Instr.makeFunc fn first cap).run Tryz.prog w=.ok (.func fn first cap) w:=fun _ _ _ _=>rfl
 have NI:=bC h0
 have cE:Hid (Bl w ((w.alloc (n7 m P C J p c k)).alloc (.cells #[.nilFunc,.nilFunc,.nilFunc] 85))):=((Bl.refl w).alloc _).alloc _
 have q0:((w.alloc (n7 m P C J p c k)).alloc (.cells #[.nilFunc,.nilFunc,.nilFunc] 85)).heap[w.heap.size+1]?=some (.cells #[.nilFunc,.nilFunc,.nilFunc] 85 (0,0)):=by
  have:=aD (w.alloc (n7 m P C J p c k)) #[.nilFunc,.nilFunc,.nilFunc] 85
  rwa [World.size_alloc] at this
 have Q0:=ab q0
 have HT:Hid (∀w',Bl ((w.alloc (n7 m P C J p c k)).alloc (.cells #[.nilFunc,.nilFunc,.nilFunc] 85)) w'->(fun w'=>Hid (Bl ((w.alloc (n7 m P C J p c k)).alloc (.cells #[.nilFunc,.nilFunc,.nilFunc] 85)) w')/\w'.cell? ⟨g.r,0,none⟩=some (.pointer (some ⟨g.hb,0,none⟩))/\w'.cell? ⟨w.heap.size,0,none⟩=some (.slice P m.params.length p)/\w'.cell? ⟨w.heap.size,1,none⟩=some (int i64 m.ret.kind)/\w'.cell? ⟨w.heap.size,2,none⟩=some (int i64 m.ret.cls)/\w'.cell? ⟨w.heap.size,3,none⟩=some (int i64 m.stack)/\w'.cell? ⟨w.heap.size,4,none⟩=some (int i64 m.locs)/\w'.cell? ⟨w.heap.size,5,none⟩=some (int i64 m.regs)/\w'.cell? ⟨w.heap.size,6,none⟩=some (.slice C m.code.length c)/\w'.cell? ⟨w.heap.size,7,none⟩=some (.slice J m.hands.length k)) w'):=fun w' hb=>by
  have dB:Bl (w.alloc (n7 m P C J p c k)) w':=((Bl.refl _).alloc _).trans hb
  exact ⟨hb,hb.cell (cE.out.cell h0),dB.cell (ak rfl),dB.cell (ak rfl),dB.cell (ak rfl),dB.cell (ak rfl),dB.cell (ak rfl),dB.cell (ak rfl),dB.cell (ak rfl),dB.cell (ak rfl)⟩
 clear B hk mV h0 J4 q0
 go_enter Tryz.func17,Tryz.ntmps17
 go_wp2
 refine wp_region_held_drew (S:=fun w'=>Hid (Bl ((w.alloc (n7 m P C J p c k)).alloc (.cells #[.nilFunc,.nilFunc,.nilFunc] 85)) w')/\w'.cell? ⟨g.r,0,none⟩=some (.pointer (some ⟨g.hb,0,none⟩))/\w'.cell? ⟨w.heap.size,0,none⟩=some (.slice P m.params.length p)/\w'.cell? ⟨w.heap.size,1,none⟩=some (int i64 m.ret.kind)/\w'.cell? ⟨w.heap.size,2,none⟩=some (int i64 m.ret.cls)/\w'.cell? ⟨w.heap.size,3,none⟩=some (int i64 m.stack)/\w'.cell? ⟨w.heap.size,4,none⟩=some (int i64 m.locs)/\w'.cell? ⟨w.heap.size,5,none⟩=some (int i64 m.regs)/\w'.cell? ⟨w.heap.size,6,none⟩=some (.slice C m.code.length c)/\w'.cell? ⟨w.heap.size,7,none⟩=some (.slice J m.hands.length k)) (by kernel_rfl) ?_ (fun ae=>?_)
 ·exact HT.out _ (Bl.refl _).drew
 iterate 9 (refine tn rfl (by kernel_rfl) (fun _ _ _ h=>h) (by intro _ h;go_split_ands;go_simp<;>with_reducible rfl) ae ?_;try simp only [aS,aN,aT,a0,a1])
 refine bI (i:=9) (by kernel_rfl) rfl fun K hK=>?_
 go_simp
 go_at_call 39
 refine (RY.out _ (cE.out.trans ae.1.out)).mono ?_
 rintro e w1 ⟨rfl,L1,b1⟩
 have Lq:=ab L1
 have hb1:=ab b1
 clear L1
 go_wp2_with fail
 refine hK.out _ _ (HT.out _ (ae.1.out.trans b1)) (fun ah=>?_)
 try simp only [aS,aN,aT,a0,a1]
 refine tn rfl (by kernel_rfl) (fun _ _ _ h=>h) (by intro _ h;go_split_ands;go_simp<;>with_reducible rfl) ah ?_
 try simp only [aS,aN,aT,a0,a1]
 refine bI (i:=11) (by kernel_rfl) rfl fun K hK=>?_
 go_wp2_with fail
 refine hK.out _ _ (HT.out _ (ah.1.out.alloc _)) (fun aX=>?_)
 try simp only [aS,aN,aT,a0,a1]
 refine tn rfl (by kernel_rfl) (fun _ _ _ h=>h) (by intro _ h;go_split_ands;go_simp<;>with_reducible rfl) aX ?_
 try simp only [aS,aN,aT,a0,a1]
 refine wpAnyH_done (by kernel_rfl) ?_ _
 obtain ⟨V,hV⟩:∃V,V=w1.alloc (.cells (newRow g m P C J p c k (w.heap.size+1+1) N) 94):=⟨_,rfl⟩
 have Dp:=ah.1.out
 have Qy:Bl w1 V:=by rw [hV];exact (Bl.refl w1).alloc _
 have Nf:((w.alloc (n7 m P C J p c k)).alloc (.cells #[.nilFunc,.nilFunc,.nilFunc] 85)).drew.heap.size=w.heap.size+1+1:=by simp
 have ma:Hid (cu V (w.heap.size+1+1) (eX (List.replicate N ag) 0 us)):=by have:=Lq.out.bl Qy;rwa [Nf] at this
 have Xq:Hid (Bl w V):=(cE.out.trans Dp).trans Qy
 have UG:Hid (V.heap[w1.heap.size]?=some (.cells (newRow g m P C J p c k (w.heap.size+1+1) N) 94 (0,0))):=by rw [hV];exact aD _ _ _
 have q1:V.heap[w.heap.size+1]?=some (.cells #[.nilFunc,.nilFunc,.nilFunc] 85 (0,0)):=ai (Dp.trans Qy) Q0.out
 have fY:Hid (w.heap.size+1+1<=w1.heap.size):=by rw [<-Nf];exact hb1.out.size
 unfold newRow at hV
 rw [<-hV]
 clear hV Qy Nf Dp
 clear ae ah aX
 obtain ⟨qq,Ng⟩:∃qq,qq=w1.heap.size:=⟨_,rfl⟩
 rw [<-Ng] at UG fY
 simp only [<-Ng]
 clear Ng
 have v0:V.cell? ⟨w.heap.size+1,0,none⟩=some .nilFunc:=by rw [aa q1];rfl
 have v1:V.cell? ⟨w.heap.size+1,1,none⟩=some .nilFunc:=by rw [aa q1];rfl
 have v2:V.cell? ⟨w.heap.size+1,2,none⟩=some .nilFunc:=by rw [aa q1];rfl
 have fz:=ay q1
 replace q1:=ab q1
 go_wp2
 have q3:(((V.setCell ⟨w.heap.size+1,0,none⟩ (.func (.func 40) #[.pointer (some ⟨qq,0,none⟩)] #[])).setCell ⟨w.heap.size+1,1,none⟩ (.func (.func 41) #[.pointer (some ⟨qq,0,none⟩)] #[])).setCell ⟨w.heap.size+1,2,none⟩ (.func (.func 42) #[.pointer (some ⟨qq,0,none⟩)] #[])).heap[w.heap.size+1]?=some (.cells (fD qq).toArray 85 (0,0)):=by rw [ax (ax (ax q1.out _) _)];rfl
 refine bodyPost_ret (results_cell_row rfl _ _ (w.heap.size+1) _ _ _ _ rfl q3 Tryz.underlying85 rfl sS) rfl ?_
 have YP:=fY.out
 refine ⟨qq,rfl,((Xq.out.setCell (p:=⟨w.heap.size+1,0,none⟩) (Nat.le_succ _) _).setCell (p:=⟨w.heap.size+1,1,none⟩) (Nat.le_succ _) _).setCell (p:=⟨w.heap.size+1,2,none⟩) (Nat.le_succ _) _,by omega,?_,⟨?_⟩⟩
 ·rw [aA (by omega),aA (by omega),aA (by omega)];exact UG.out
 ·rw [aA (by omega),aA (by omega),aA (by omega)];exact ma.out.blk
theorem zh:(Tryz.prog.info? 85).map (fun i=>(i.zero,i.size,i.bytes))=some (some (.agg #[.nilFunc,.nilFunc,.nilFunc]),3,24):=by kernel_rfl
theorem HX.pushc {s:Nat} {X:Nat->Prop} {wx w0 w w2:World} {g:Mg} {h:Hp} {qs:List Nat} {q:Nat} {vc vo vx v':Value} (R:RH s w0 g w h qs vc vo vx) (hf:∀b,X b->lv g vc vo vx b) (hK:jj X wx w) (hg:w.grownBy w2 vc.ownBlock) (ho:w2.ownsRow w0.heap.size 85 3 v' (qs.length+1) (cj qs++fD q)) (hat:v'.ownBlock=vc.ownBlock∨∀b,v'.ownBlock=some b->w.heap.size<=b) :
  HX s X wx w0 g (w2.setCell ⟨g.r,3,none⟩ v') h (qs++[q]):=by
 have hrow:∀b,vc.ownBlock=some b->w0.heap.size<=b:=fun b e=>(R.calls.lt b e).1
 have qy:=au hg R.run (bc R.calls R.run (by decide))
 have Xr:=au hg R.hp (bc R.calls R.hp (by decide))
 have gE:=cQ (w:=w2) g.r 3 v'
 obtain ⟨n,D,F⟩:=R.fld
 have Ha:g.r≠g.mp:=iC R.run F.own
 have hap:∀b,v'.ownBlock=some b->¬X b:=fun b e hx=>by
  rcases hat with z|z
  ·rw [z] at e;exact (hf b hx).c e
  ·have h1:=z b e
   have:=(hK.blk b hx).1;have:=hK.size;omega
 have hcc:cj (qs++[q])=cj qs++fD q:=by rw [gO];simp [cj]
 have dB:Bl w0 w2:=Below.grown R.bl hg R.bl.size hrow
 refine ⟨v',vo,vx,⟨R.ownr,R.ownh,R.ownm,Below.grown dB gE dB.size (fun k hk=>by cases hk;exact R.ownr),?_,?_,?_,?_,?_,n,D,?_,F.few,F.hit,F.miss,F.new,F.ks,F.kd⟩,fun b hx=>?_,(hK.kept hg (fun b e hx=>(hf b hx).c e)).kept gE (fun b e hx=>?_)⟩
 ·rw [ax qy];rfl
 ·exact au gE Xr (fun e=>dN R.run R.hp (by decide) (Option.some.inj e))
 ·exact (R.out.kept hg (ta R.out R.calls (by decide))).kept gE (Or.inr (bc R.out R.run (by decide)))
 ·exact (R.obs.kept hg (ta R.obs R.calls (by decide))).kept gE (Or.inr (bc R.obs R.run (by decide)))
 ·rw [hcc,List.length_append]
  exact ho.kept gE (Or.inr (bc ho qy (by decide)))
 ·exact (F.own.kept hg (fun e=>l5 R.calls F.own e.symm)).kept gE (fun e=>Ha (Option.some.inj e.symm))
 ·have:=hf b hx
  exact ⟨this.r,this.h,this.m,fun e=>hap b e hx,this.o,this.x⟩
 ·cases e;exact (hf g.r hx).r rfl
structure Laid (s:Nat) (X:Nat->Prop) (wx w0:World) (g:Mg) (h:Hp) (qs:List Nat) (m:Me) (N:Nat) (us:List Va) (w:World) (q lb:Nat) (P C J:Option Addr) (p c k:Nat) (w':World):Prop where
 hx:HX s X wx w0 g w' h (qs++[q])
 ownq:w.heap.size<=q
 ownl:w.heap.size<=lb
 me:kZ w0 m P C J
 blk:w'.heap[q]?=some (.cells (newRow g m P C J p c k lb N) 94 (0,0))
 loc:cu w' lb (eX (List.replicate N ag) 0 us)
def Ps (s:Nat) (X:Nat->Prop) (wx w0:World) (g:Mg) (h:Hp) (qs:List Nat) (m:Me) (N:Nat) (us:List Va) (w:World) (e:Ending) (w':World):Prop :=
 e=.returned (.tuple #[])/\∃q lb P C J p c k,Laid s X wx w0 g h qs m N us w q lb P C J p c k w'
theorem xE (s:Nat) (X:Nat->Prop) (wx w0:World) (g:Mg) (h:Hp) (qs:List Nat) (i:Nat) (m:Me) (N b cap:Nat) (us:List Va) (w:World) (H:HX s X wx w0 g w h qs) (hq:qs.length<20) (hi:i<h.file.methods.length) (hm:nth bO h.file.methods i=m) (hM:eE w0 g.M h.file.methods) (J4:m.locs=(N:Int)) (B:cu w b us) (hN:N<=1000) (mV:aQ us<=N) (hk:∀v∈us,1<=v.kind/\v.kind<=3) :
  Calls Tryz.prog 45 #[.pointer (some ⟨g.r,0,none⟩),int i64 (i:Int),.slice (some ⟨b,0,none⟩) us.length cap] w fun e w'=>Ps s X wx w0 g h qs m N us w e w':=by
 obtain ⟨i0,th,sj,tj,tl⟩:=info_parts zh
 have jX:=hM.1
 unfold maxLen at jX
 rcases hM.2 with h0|⟨mb,mo,SN,hcell⟩
 ·omega
 obtain ⟨P,C,J,p,c,k,m0,m1,m2,m3,m4,m5,m6,m7,hme⟩:=hcell i hi
 rw [hm] at m0 m1 m2 m3 m4 m5 m6 m7 hme
 have vG:=ab hme
 have HH:=ab H
 obtain ⟨vc,vo,vx,R,hf,hK⟩:=H
 have hR:=ab R
 have OT:=ab hf
 have SP:=ab hK
 have Pt:=R.bl
 obtain ⟨Ac,zi,Qw,Ey,vE⟩:=iq R.calls
 subst Qw
 have r0:w.cell? ⟨g.r,0,none⟩=some (.pointer (some ⟨g.hb,0,none⟩)):=by rw [aa R.run];rfl
 have r1:w.cell? ⟨g.r,1,none⟩=some (.slice (some ⟨mb,mo,none⟩) h.file.methods.length g.m):=by rw [aa R.run,<-SN];rfl
 have r2:w.cell? ⟨g.r,2,none⟩=some (.func (.func 17) #[] #[]):=by rw [aa R.run];rfl
 have r3:w.cell? ⟨g.r,3,none⟩=some (.slice Ac qs.length zi):=by rw [aa R.run];rfl
 have NI:=bC r0
 have UH:Hid (∀w',Bl w w'->Calls Tryz.prog 17 #[.pointer (some ⟨g.r,0,none⟩),iW m P C J p c k,.slice (some ⟨b,0,none⟩) us.length cap] w' fun e w2=>Gy g m P C J p c k N us w' e w2) :=
  fun w' hb=>CY g m P C J p c k N b cap us w' (hb.cell r0) J4 (B.bl hb) hN mV hk
 have HT:Hid (∀w',Bl w w'->(fun w'=>w'.cell? ⟨g.r,1,none⟩=some (.slice (some ⟨mb,mo,none⟩) h.file.methods.length g.m)/\w'.cell? ⟨g.r,2,none⟩=some (.func (.func 17) #[] #[])/\w'.cell? ⟨mb,mo+i*8,none⟩=some (.slice P m.params.length p)/\w'.cell? ⟨mb,mo+i*8+1,none⟩=some (int i64 m.ret.kind)/\w'.cell? ⟨mb,mo+i*8+2,none⟩=some (int i64 m.ret.cls)/\w'.cell? ⟨mb,mo+i*8+3,none⟩=some (int i64 m.stack)/\w'.cell? ⟨mb,mo+i*8+4,none⟩=some (int i64 m.locs)/\w'.cell? ⟨mb,mo+i*8+5,none⟩=some (int i64 m.regs)/\w'.cell? ⟨mb,mo+i*8+6,none⟩=some (.slice C m.code.length c)/\w'.cell? ⟨mb,mo+i*8+7,none⟩=some (.slice J m.hands.length k)) w'):=fun w' hb=>by
  have Dp:=Pt.trans hb
  exact ⟨hb.cell r1,hb.cell r2,Dp.cell m0,Dp.cell m1,Dp.cell m2,Dp.cell m3,Dp.cell m4,Dp.cell m5,Dp.cell m6,Dp.cell m7⟩
 have ea:Hid (∀q w1,Bl w w1->RH s w0 g (w1.alloc (.cells (fD q).toArray 85)) h qs (.slice Ac qs.length zi) vo vx):=fun q w1 hb=>hR.out.kept (dy (hb.alloc _) none) (fun b e=>by cases e)
 have Dm:Hid (∀q w1 w2,Bl w w1->(w1.alloc (.cells (fD q).toArray 85)).grownBy w2 (Value.slice Ac qs.length zi).ownBlock->(fun w'=>w'.cell? ⟨g.r,1,none⟩=some (.slice (some ⟨mb,mo,none⟩) h.file.methods.length g.m)/\w'.cell? ⟨g.r,2,none⟩=some (.func (.func 17) #[] #[])/\w'.cell? ⟨mb,mo+i*8,none⟩=some (.slice P m.params.length p)/\w'.cell? ⟨mb,mo+i*8+1,none⟩=some (int i64 m.ret.kind)/\w'.cell? ⟨mb,mo+i*8+2,none⟩=some (int i64 m.ret.cls)/\w'.cell? ⟨mb,mo+i*8+3,none⟩=some (int i64 m.stack)/\w'.cell? ⟨mb,mo+i*8+4,none⟩=some (int i64 m.locs)/\w'.cell? ⟨mb,mo+i*8+5,none⟩=some (int i64 m.regs)/\w'.cell? ⟨mb,mo+i*8+6,none⟩=some (.slice C m.code.length c)/\w'.cell? ⟨mb,mo+i*8+7,none⟩=some (.slice J m.hands.length k)) w2/\w2.cell? ⟨g.r,3,none⟩=some (.slice Ac qs.length zi)/\∀i,w2.frozen? ⟨g.r,i,none⟩=false):=fun q w1 w2 hb hg=>by
  have R1:=ea.out q w1 hb
  have qy:=au hg R1.run (bc R1.calls R1.run (by decide))
  have dB:Bl w0 w2:=Below.grown R1.bl hg R1.bl.size (fun b e=>(R1.calls.lt b e).1)
  exact ⟨⟨by rw [aa qy,<-SN];rfl,by rw [aa qy];rfl,dB.cell m0,dB.cell m1,dB.cell m2,dB.cell m3,dB.cell m4,dB.cell m5,dB.cell m6,dB.cell m7⟩,by rw [aa qy];rfl,ay qy⟩
 have SQ:Hid (∀q w1 w2 v',Bl w w1->(w1.alloc (.cells (fD q).toArray 85)).grownBy w2 (Value.slice Ac qs.length zi).ownBlock->(fun w'=>w'.cell? ⟨g.r,1,none⟩=some (.slice (some ⟨mb,mo,none⟩) h.file.methods.length g.m)/\w'.cell? ⟨g.r,2,none⟩=some (.func (.func 17) #[] #[])/\w'.cell? ⟨mb,mo+i*8,none⟩=some (.slice P m.params.length p)/\w'.cell? ⟨mb,mo+i*8+1,none⟩=some (int i64 m.ret.kind)/\w'.cell? ⟨mb,mo+i*8+2,none⟩=some (int i64 m.ret.cls)/\w'.cell? ⟨mb,mo+i*8+3,none⟩=some (int i64 m.stack)/\w'.cell? ⟨mb,mo+i*8+4,none⟩=some (int i64 m.locs)/\w'.cell? ⟨mb,mo+i*8+5,none⟩=some (int i64 m.regs)/\w'.cell? ⟨mb,mo+i*8+6,none⟩=some (.slice C m.code.length c)/\w'.cell? ⟨mb,mo+i*8+7,none⟩=some (.slice J m.hands.length k)) (w2.setCell ⟨g.r,3,none⟩ v')):=fun q w1 w2 v' hb hg=>by
  have R1:=ea.out q w1 hb
  have qy:=au hg R1.run (bc R1.calls R1.run (by decide))
  have dB:Bl w0 w2:=Below.grown R1.bl hg R1.bl.size (fun b e=>(R1.calls.lt b e).1)
  have yH:=ax (i:=3) qy v'
  have mP:Bl w0 (w2.setCell ⟨g.r,3,none⟩ v'):=Below.grown dB (cQ g.r 3 v') dB.size (fun k hk=>by cases hk;exact R1.ownr)
  exact ⟨by rw [aa yH,<-SN];rfl,by rw [aa yH];rfl,mP.cell m0,mP.cell m1,mP.cell m2,mP.cell m3,mP.cell m4,mP.cell m5,mP.cell m6,mP.cell m7⟩
 have n0:¬(20:Int)<=(qs.length:Int):=by omega
 have YQ:(0:Int)<=(i:Int):=by omega
 have YR:(i:Int)<(h.file.methods.length:Int):=by omega
 have Ng:=ab hq
 clear R hf hK Pt Ey vE m0 m1 m2 m3 m4 m5 m6 m7 hme hcell hm J4 B mV hk hM r0 r1 r2 hq hN
 go_enter Tryz.func45,Tryz.ntmps45
 go_wp2
 refine wp_region_held_drew (S:=fun w'=>w'.cell? ⟨g.r,1,none⟩=some (.slice (some ⟨mb,mo,none⟩) h.file.methods.length g.m)/\w'.cell? ⟨g.r,2,none⟩=some (.func (.func 17) #[] #[])/\w'.cell? ⟨mb,mo+i*8,none⟩=some (.slice P m.params.length p)/\w'.cell? ⟨mb,mo+i*8+1,none⟩=some (int i64 m.ret.kind)/\w'.cell? ⟨mb,mo+i*8+2,none⟩=some (int i64 m.ret.cls)/\w'.cell? ⟨mb,mo+i*8+3,none⟩=some (int i64 m.stack)/\w'.cell? ⟨mb,mo+i*8+4,none⟩=some (int i64 m.locs)/\w'.cell? ⟨mb,mo+i*8+5,none⟩=some (int i64 m.regs)/\w'.cell? ⟨mb,mo+i*8+6,none⟩=some (.slice C m.code.length c)/\w'.cell? ⟨mb,mo+i*8+7,none⟩=some (.slice J m.hands.length k)) (by kernel_rfl) ?_ (fun ae=>?_)
 ·exact HT.out _ (Bl.refl _).drew
 refine tk (i:=0) (d:=some 13) rfl rfl (by kernel_rfl) (fun _ _ _ h=>h) (by rfl) (by intro _ h;(try dsimp only at h);go_split_ands;go_simp<;>with_reducible rfl) ae ?_
 try simp only [aS,aN,aT,a0,a1]
 refine tk (i:=1) (d:=some 14) rfl rfl (by kernel_rfl) (fun _ _ _ h=>h) (by rfl) (by intro _ h;(try dsimp only at h);go_split_ands;go_simp<;>with_reducible rfl) ae ?_
 try simp only [aS,aN,aT,a0,a1]
 refine tk (i:=2) (d:=some 15) rfl rfl (by kernel_rfl) (fun _ _ _ h=>h) (by rfl) (by intro _ h;(try dsimp only at h);go_split_ands;go_simp<;>with_reducible rfl) ae ?_
 try simp only [aS,aN,aT,a0,a1]
 refine tk (i:=3) (d:=some 16) rfl rfl (by kernel_rfl) (fun _ _ _ h=>h) (by rfl) (by intro _ h;(try dsimp only at h);go_split_ands;go_simp<;>with_reducible rfl) ae ?_
 try simp only [aS,aN,aT,a0,a1]
 refine tk (i:=5) (d:=some 18) rfl rfl (by kernel_rfl) (fun _ _ _ h=>h) (by rfl) (by intro _ h;(try dsimp only at h);go_split_ands;go_simp<;>with_reducible rfl) ae ?_
 try simp only [aS,aN,aT,a0,a1]
 refine tk (i:=6) (d:=some 19) rfl rfl (by kernel_rfl) (fun _ _ _ h=>h) (by rfl) (by intro _ h;(try dsimp only at h);go_split_ands;go_simp<;>with_reducible rfl) ae ?_
 try simp only [aS,aN,aT,a0,a1]
 refine tk (i:=7) (d:=some 20) rfl rfl (by kernel_rfl) (fun _ _ _ h=>h) (by rfl) (by intro _ h;(try dsimp only at h);go_split_ands;go_simp<;>with_reducible rfl) ae ?_
 try simp only [aS,aN,aT,a0,a1]
 refine tk (i:=8) (d:=some 21) rfl rfl (by kernel_rfl) (fun _ _ _ h=>h) (by rfl) (by intro _ h;(try dsimp only at h);go_split_ands;go_simp<;>with_reducible rfl) ae ?_
 try simp only [aS,aN,aT,a0,a1]
 refine tk (i:=9) (d:=some 22) rfl rfl (by kernel_rfl) (fun _ _ _ h=>h) (by rfl) (by intro _ h;(try dsimp only at h);go_split_ands;go_simp<;>with_reducible rfl) ae ?_
 try simp only [aS,aN,aT,a0,a1]
 refine tk (i:=10) (d:=some 23) rfl rfl (by kernel_rfl) (fun _ _ _ h=>h) (by rfl) (by intro _ h;(try dsimp only at h);go_split_ands;go_simp<;>with_reducible rfl) ae ?_
 try simp only [aS,aN,aT,a0,a1]
 refine tk (i:=11) (d:=some 24) rfl rfl (by kernel_rfl) (fun _ _ _ h=>h) (by rfl) (by intro _ h;(try dsimp only at h);go_split_ands;go_simp<;>with_reducible rfl) ae ?_
 try simp only [aS,aN,aT,a0,a1]
 refine tk (i:=12) (d:=some 25) rfl rfl (by kernel_rfl) (fun _ _ _ h=>h) (by rfl) (by intro _ h;(try dsimp only at h);go_split_ands;go_simp<;>with_reducible rfl) ae ?_
 try simp only [aS,aN,aT,a0,a1]
 refine tk (i:=13) (d:=some 26) rfl rfl (by kernel_rfl) (fun _ _ _ h=>h) (by rfl) (by intro _ h;(try dsimp only at h);go_split_ands;go_simp<;>with_reducible rfl) ae ?_
 try simp only [aS,aN,aT,a0,a1]
 refine tk (i:=14) (d:=some 27) rfl rfl (by kernel_rfl) (fun _ _ _ h=>h) (by rfl) (by intro _ h;(try dsimp only at h);go_split_ands;go_simp<;>with_reducible rfl) ae ?_
 try simp only [aS,aN,aT,a0,a1]
 refine tk (i:=15) (d:=some 28) rfl rfl (by kernel_rfl) (fun _ _ _ h=>h) (by rfl) (by intro _ h;(try dsimp only at h);go_split_ands;go_simp<;>with_reducible rfl) ae ?_
 try simp only [aS,aN,aT,a0,a1]
 refine tk (i:=16) (d:=some 29) rfl rfl (by kernel_rfl) (fun _ _ _ h=>h) (by rfl) (by intro _ h;(try dsimp only at h);go_split_ands;go_simp<;>with_reducible rfl) ae ?_
 try simp only [aS,aN,aT,a0,a1]
 refine tk (i:=17) (d:=some 30) rfl rfl (by kernel_rfl) (fun _ _ _ h=>h) (by rfl) (by intro _ h;(try dsimp only at h);go_split_ands;go_simp<;>with_reducible rfl) ae ?_
 try simp only [aS,aN,aT,a0,a1]
 refine wpAnyH_ready (rs:=[4,18]) (by kernel_rfl) (by simp) ?_
 refine AllReadyH.cons rfl (fun K hK=>?_) (AllReadyH.cons rfl (fun K hK=>?_) (AllReadyH.nil))
 ·go_wp2_with fail
  refine hK.out _ _ (ae) (fun ah=>?_)
  try simp only [aS,aN,aT,a0,a1]
  refine bI (i:=18) (by kernel_rfl) rfl fun K hK=>?_
  go_simp
  go_at_call 17
  refine (UH.out _ (Bl.refl w).drew).mono ?_
  rintro e w1 ⟨q,rfl,Bg⟩
  have Kg:Bl w w1:=(Bl.refl w).drew.trans Bg.bl
  have f3:=Kg.cell r3
  have f4:∀o,(w1.alloc o).cell? ⟨g.r,3,none⟩=some (.slice Ac qs.length zi):=fun o=>(Kg.alloc o).cell r3
  have Qz:=ab Bg
  have fZ:=ab Kg
  clear Bg Kg
  unfold fD
  go_wp2_with fail
  refine hK.out _ _ (HT.out _ fZ.out) (fun aX=>?_)
  try simp only [aS,aN,aT,a0,a1]
  refine bI (i:=19) (by kernel_rfl) rfl fun K hK=>?_
  go_simp
  refine hK.out _ _ (HT.out _ (fZ.out.alloc _)) (fun dh=>?_)
  try simp only [aS,aN,aT,a0,a1]
  refine bI (i:=20) (by kernel_rfl) rfl fun K hK=>?_
  refine step_append_lies _ (by rfl) _ _ _ (by rfl) w0.heap.size 85 i0 _ 3 24 Tryz.underlying88 th sj tj tl rfl (by omega) _ qs.length (cj qs) (by rfl) (ea.out q w1 fZ.out).calls ⟨w1.heap.size,0,none⟩ 1 1 (fD q) (by rfl) (by rfl) (World.news_of_block (cs:=#[.func (.func 40) #[.pointer (some ⟨q,0,none⟩)] #[],.func (.func 41) #[.pointer (some ⟨q,0,none⟩)] #[],.func (.func 42) #[.pointer (some ⟨q,0,none⟩)] #[]]) (t:=85) (fr:=(0,0)) (aD _ _ _)) (by simp [fD,Value.oneCell']) (by omega) (by unfold maxLen;omega) (by omega) (ea.out q w1 fZ.out).bl.size _ rfl ?_
  intro gb cp w2 fY bL hat tr
  have AB:=Dm.out q w1 w2 fZ.out bL
  have c3:=AB.2.1
  have z3:=AB.2.2
  have Gz:=ab AB.1
  clear AB
  replace fY:=ab fY
  replace bL:=ab bL
  replace hat:=ab hat
  change K (Act.put _ (some 33) _) w2
  refine hK.out _ _ (Gz.out) (fun dm=>?_)
  try simp only [aS,aN,aT,a0,a1]
  refine tk (i:=21) (d:=some 34) rfl rfl (by kernel_rfl) (fun _ _ _ h=>h) (by rfl) (by intro _ h;(try dsimp only at h);go_split_ands;go_simp<;>with_reducible rfl) dm ?_
  try simp only [aS,aN,aT,a0,a1]
  refine tk (i:=22) (d:=some 35) rfl rfl (by kernel_rfl) (fun _ _ _ h=>h) (by rfl) (by intro _ h;(try dsimp only at h);go_split_ands;go_simp<;>with_reducible rfl) dm ?_
  try simp only [aS,aN,aT,a0,a1]
  refine bI (i:=23) (by kernel_rfl) rfl fun K hK=>?_
  go_simp
  refine hK.out _ _ (SQ.out q w1 w2 _ fZ.out bL.out) (fun eL=>?_)
  try simp only [aS,aN,aT,a0,a1]
  refine wpAnyH_done (by kernel_rfl) ?_ _
  go_wp2
  go_end0
  have hL:Az g m P C J p c k N us w q w1:=by
   have h1:=Qz.out
   refine ⟨fZ.out,?_,?_,?_⟩
   ·simpa using h1.own
   ·simpa using h1.blk
   ·simpa using h1.loc
  have Pv:=HX.pushc (ea.out q w1 fZ.out) OT.out (SP.out.kept (dy (fZ.out.alloc _) none) (fun b e=>by cases e)) bL.out fY.out (hat.out.elim (fun e=>Or.inl e.symm) (fun e=>Or.inr fun b hb=>Nat.le_of_eq (e.symm.trans (by simpa [Value.ownBlock] using hb))))
  have vI:=ea.out q w1 fZ.out
  have mN:(w1.alloc (.cells (fD q).toArray 85)).heap[q]?=some (.cells (newRow g m P C J p c k (w.heap.size+1+1) N) 94 (0,0)):=ai ((Bl.refl w1).alloc _) hL.blk
  have mZ:(w1.alloc (.cells (fD q).toArray 85)).heap[w.heap.size+1+1]?=some (.cells (aL (eX (List.replicate N ag) 0 us)).toArray 100 (0,0)):=ai ((Bl.refl w1).alloc _) hL.loc.blk
  have qN:=au bL.out mN (bc vI.calls mN (by decide))
  have yf:=au bL.out mZ (bc vI.calls mZ (by decide))
  refine ⟨rfl,q,w.heap.size+1+1,P,C,J,p,c,k,Pv,hL.own,by omega,vG.out,?_,⟨?_⟩⟩
  ·rw [aA (dN mN vI.run (by decide))];exact qN
  ·rw [aA (dN mZ vI.run (by decide))];exact yf
 ·go_simp
  go_at_call 17
  refine (UH.out _ (Bl.refl w).drew).mono ?_
  rintro e w1 ⟨q,rfl,Bg⟩
  have Kg:Bl w w1:=(Bl.refl w).drew.trans Bg.bl
  have f3:=Kg.cell r3
  have f4:∀o,(w1.alloc o).cell? ⟨g.r,3,none⟩=some (.slice Ac qs.length zi):=fun o=>(Kg.alloc o).cell r3
  have Qz:=ab Bg
  have fZ:=ab Kg
  clear Bg Kg
  unfold fD
  go_wp2_with fail
  refine hK.out _ _ (HT.out _ fZ.out) (fun fp=>?_)
  try simp only [aS,aN,aT,a0,a1]
  refine wpAnyH_ready (rs:=[4,19]) (by kernel_rfl) (by simp) ?_
  refine AllReadyH.cons rfl (fun K hK=>?_) (AllReadyH.cons rfl (fun K hK=>?_) (AllReadyH.nil))
  ·go_wp2_with fail
   refine hK.out _ _ (fp) (fun SR=>?_)
   try simp only [aS,aN,aT,a0,a1]
   refine bI (i:=19) (by kernel_rfl) rfl fun K hK=>?_
   go_simp
   refine hK.out _ _ (HT.out _ (fZ.out.alloc _)) (fun SS=>?_)
   try simp only [aS,aN,aT,a0,a1]
   refine bI (i:=20) (by kernel_rfl) rfl fun K hK=>?_
   refine step_append_lies _ (by rfl) _ _ _ (by rfl) w0.heap.size 85 i0 _ 3 24 Tryz.underlying88 th sj tj tl rfl (by omega) _ qs.length (cj qs) (by rfl) (ea.out q w1 fZ.out).calls ⟨w1.heap.size,0,none⟩ 1 1 (fD q) (by rfl) (by rfl) (World.news_of_block (cs:=#[.func (.func 40) #[.pointer (some ⟨q,0,none⟩)] #[],.func (.func 41) #[.pointer (some ⟨q,0,none⟩)] #[],.func (.func 42) #[.pointer (some ⟨q,0,none⟩)] #[]]) (t:=85) (fr:=(0,0)) (aD _ _ _)) (by simp [fD,Value.oneCell']) (by omega) (by unfold maxLen;omega) (by omega) (ea.out q w1 fZ.out).bl.size _ rfl ?_
   intro gb cp w2 fY bL hat tr
   have AB:=Dm.out q w1 w2 fZ.out bL
   have c3:=AB.2.1
   have z3:=AB.2.2
   have Gz:=ab AB.1
   clear AB
   replace fY:=ab fY
   replace bL:=ab bL
   replace hat:=ab hat
   change K (Act.put _ (some 33) _) w2
   refine hK.out _ _ (Gz.out) (fun GA=>?_)
   try simp only [aS,aN,aT,a0,a1]
   refine tk (i:=21) (d:=some 34) rfl rfl (by kernel_rfl) (fun _ _ _ h=>h) (by rfl) (by intro _ h;(try dsimp only at h);go_split_ands;go_simp<;>with_reducible rfl) GA ?_
   try simp only [aS,aN,aT,a0,a1]
   refine tk (i:=22) (d:=some 35) rfl rfl (by kernel_rfl) (fun _ _ _ h=>h) (by rfl) (by intro _ h;(try dsimp only at h);go_split_ands;go_simp<;>with_reducible rfl) GA ?_
   try simp only [aS,aN,aT,a0,a1]
   refine bI (i:=23) (by kernel_rfl) rfl fun K hK=>?_
   go_simp
   refine hK.out _ _ (SQ.out q w1 w2 _ fZ.out bL.out) (fun QA=>?_)
   try simp only [aS,aN,aT,a0,a1]
   refine wpAnyH_done (by kernel_rfl) ?_ _
   go_wp2
   go_end0
   have hL:Az g m P C J p c k N us w q w1:=by
    have h1:=Qz.out
    refine ⟨fZ.out,?_,?_,?_⟩
    ·simpa using h1.own
    ·simpa using h1.blk
    ·simpa using h1.loc
   have Pv:=HX.pushc (ea.out q w1 fZ.out) OT.out (SP.out.kept (dy (fZ.out.alloc _) none) (fun b e=>by cases e)) bL.out fY.out (hat.out.elim (fun e=>Or.inl e.symm) (fun e=>Or.inr fun b hb=>Nat.le_of_eq (e.symm.trans (by simpa [Value.ownBlock] using hb))))
   have vI:=ea.out q w1 fZ.out
   have mN:(w1.alloc (.cells (fD q).toArray 85)).heap[q]?=some (.cells (newRow g m P C J p c k (w.heap.size+1+1) N) 94 (0,0)):=ai ((Bl.refl w1).alloc _) hL.blk
   have mZ:(w1.alloc (.cells (fD q).toArray 85)).heap[w.heap.size+1+1]?=some (.cells (aL (eX (List.replicate N ag) 0 us)).toArray 100 (0,0)):=ai ((Bl.refl w1).alloc _) hL.loc.blk
   have qN:=au bL.out mN (bc vI.calls mN (by decide))
   have yf:=au bL.out mZ (bc vI.calls mZ (by decide))
   refine ⟨rfl,q,w.heap.size+1+1,P,C,J,p,c,k,Pv,hL.own,by omega,vG.out,?_,⟨?_⟩⟩
   ·rw [aA (dN mN vI.run (by decide))];exact qN
   ·rw [aA (dN mZ vI.run (by decide))];exact yf
  ·go_simp
   refine hK.out _ _ (HT.out _ (fZ.out.alloc _)) (fun Kh=>?_)
   try simp only [aS,aN,aT,a0,a1]
   refine bI (i:=4) (by kernel_rfl) rfl fun K hK=>?_
   go_wp2_with fail
   refine hK.out _ _ (Kh) (fun QB=>?_)
   try simp only [aS,aN,aT,a0,a1]
   refine bI (i:=20) (by kernel_rfl) rfl fun K hK=>?_
   refine step_append_lies _ (by rfl) _ _ _ (by rfl) w0.heap.size 85 i0 _ 3 24 Tryz.underlying88 th sj tj tl rfl (by omega) _ qs.length (cj qs) (by rfl) (ea.out q w1 fZ.out).calls ⟨w1.heap.size,0,none⟩ 1 1 (fD q) (by rfl) (by rfl) (World.news_of_block (cs:=#[.func (.func 40) #[.pointer (some ⟨q,0,none⟩)] #[],.func (.func 41) #[.pointer (some ⟨q,0,none⟩)] #[],.func (.func 42) #[.pointer (some ⟨q,0,none⟩)] #[]]) (t:=85) (fr:=(0,0)) (aD _ _ _)) (by simp [fD,Value.oneCell']) (by omega) (by unfold maxLen;omega) (by omega) (ea.out q w1 fZ.out).bl.size _ rfl ?_
   intro gb cp w2 fY bL hat tr
   have AB:=Dm.out q w1 w2 fZ.out bL
   have c3:=AB.2.1
   have z3:=AB.2.2
   have Gz:=ab AB.1
   clear AB
   replace fY:=ab fY
   replace bL:=ab bL
   replace hat:=ab hat
   change K (Act.put _ (some 33) _) w2
   refine hK.out _ _ (Gz.out) (fun AD=>?_)
   try simp only [aS,aN,aT,a0,a1]
   refine tk (i:=21) (d:=some 34) rfl rfl (by kernel_rfl) (fun _ _ _ h=>h) (by rfl) (by intro _ h;(try dsimp only at h);go_split_ands;go_simp<;>with_reducible rfl) AD ?_
   try simp only [aS,aN,aT,a0,a1]
   refine tk (i:=22) (d:=some 35) rfl rfl (by kernel_rfl) (fun _ _ _ h=>h) (by rfl) (by intro _ h;(try dsimp only at h);go_split_ands;go_simp<;>with_reducible rfl) AD ?_
   try simp only [aS,aN,aT,a0,a1]
   refine bI (i:=23) (by kernel_rfl) rfl fun K hK=>?_
   go_simp
   refine hK.out _ _ (SQ.out q w1 w2 _ fZ.out bL.out) (fun QC=>?_)
   try simp only [aS,aN,aT,a0,a1]
   refine wpAnyH_done (by kernel_rfl) ?_ _
   go_wp2
   go_end0
   have hL:Az g m P C J p c k N us w q w1:=by
    have h1:=Qz.out
    refine ⟨fZ.out,?_,?_,?_⟩
    ·simpa using h1.own
    ·simpa using h1.blk
    ·simpa using h1.loc
   have Pv:=HX.pushc (ea.out q w1 fZ.out) OT.out (SP.out.kept (dy (fZ.out.alloc _) none) (fun b e=>by cases e)) bL.out fY.out (hat.out.elim (fun e=>Or.inl e.symm) (fun e=>Or.inr fun b hb=>Nat.le_of_eq (e.symm.trans (by simpa [Value.ownBlock] using hb))))
   have vI:=ea.out q w1 fZ.out
   have mN:(w1.alloc (.cells (fD q).toArray 85)).heap[q]?=some (.cells (newRow g m P C J p c k (w.heap.size+1+1) N) 94 (0,0)):=ai ((Bl.refl w1).alloc _) hL.blk
   have mZ:(w1.alloc (.cells (fD q).toArray 85)).heap[w.heap.size+1+1]?=some (.cells (aL (eX (List.replicate N ag) 0 us)).toArray 100 (0,0)):=ai ((Bl.refl w1).alloc _) hL.loc.blk
   have qN:=au bL.out mN (bc vI.calls mN (by decide))
   have yf:=au bL.out mZ (bc vI.calls mZ (by decide))
   refine ⟨rfl,q,w.heap.size+1+1,P,C,J,p,c,k,Pv,hL.own,by omega,vG.out,?_,⟨?_⟩⟩
   ·rw [aA (dN mN vI.run (by decide))];exact qN
   ·rw [aA (dN mZ vI.run (by decide))];exact yf
end Go.Proofs.YtgiiapenmjollaaGreat
