import Derived.Test.YtgiiapenmjollaaGreatSrbb
import Derived.WalkSmall
namespace Go.Proofs.YtgiiapenmjollaaGreat
set_option linter.all false
set_option maxHeartbeats 40000000
set_option maxRecDepth 100000
open Go.RowKit
open Go.Value (int)
open Go.IntKind (i64)
theorem AM {w:World} {base:Nat} {v:Value} {n:Nat} {xs:List Value} (ho:w.ownsRow base 2 1 v n xs) {b:Nat} {cs:Array Value} (hb:w.heap[b]?=some (.cells cs 28 (0,0))) (v0 v1 v2 v3 v4 v5:Value) :
  ((((((w.setCell ⟨b,0,none⟩ v0).setCell ⟨b,1,none⟩ v1).setCell ⟨b,2,none⟩ v2).setCell ⟨b,3,none⟩ v3).setCell ⟨b,4,none⟩ v4).setCell ⟨b,5,none⟩ v5).ownsRow base 2 1 v n xs:=by
 have h0:=ax (i:=0) hb v0
 have h1:=ax (i:=1) h0 v1
 have h2:=ax (i:=2) h1 v2
 have h3:=ax (i:=3) h2 v3
 have h4:=ax (i:=4) h3 v4
 exact df (df (df (df (df (df ho hb (by decide) _) h0 (by decide) _) h1 (by decide) _) h2 (by decide) _) h3 (by decide) _) h4 (by decide) _
section
variable {s:Nat} {Z:Nat->Prop} {wx w0 w:World} {g:Mg} {h:Hp} {L:List Kl}
theorem RR.z (H:RR s Z wx w0 g w h L) {b:Nat} (hb:Z b):w.heap[b]?=wx.heap[b]?:=by
 obtain ⟨vc,vo,vx,-,-,-,-,K⟩:=H
 exact (K.blk b hb).2
theorem RR.bl0 (H:RR s Z wx w0 g w h L):Bl w0 w:=by
 obtain ⟨vc,vo,vx,R,-⟩:=H
 exact R.bl
end
theorem GR (f:Fi) (input:List Int) (fuel:Int) (w0 w:World) (g:Mg) (Z:Nat->Prop) (hb:Bl w0 w) (h1:w0.heap.size<=g.r) (h2:w0.heap.size<=g.hb) (h3:w0.heap.size<=g.mp) (hr:w.heap[g.r]?=some (.cells (gM g (gC f input fuel) (.slice none 0 0) (.slice none 0 0)) 90 (0,0))) (hh:w.heap[g.hb]?=some (.cells (fC g (gC f input fuel) (.slice none 0 0)) 171 (0,0))) (hm:w.ownsMap Tryz.prog 265 fk g.mp 0 (.map [])) (hz:∀b,Z b->b≠g.r/\b≠g.hb/\b≠g.mp) (XJ:∀b,Z b->b<w.heap.size):RR 0 Z w w0 g w (gC f input fuel) []:=by
 obtain ⟨vc,vo,vx,R,K,-⟩:=Gq f input fuel w0 w g hb h1 h2 h3 hr hh hm
 have e1:=R.run.symm.trans hr
 have e2:=R.hp.symm.trans hh
 unfold gM at e1
 unfold fC at e2
 simp only [Option.some.injEq,Obj.cells.injEq,Array.mk.injEq,List.cons.injEq,true_and,and_true] at e1 e2
 obtain ⟨rfl,rfl⟩:=e1
 subst e2
 exact ⟨_,_,_,R,K,fun b hb=>⟨(hz b hb).1,(hz b hb).2.1,(hz b hb).2.2,(fun e=>by cases e),(fun e=>by cases e),(fun e=>by cases e)⟩,(fun b _ k hk=>by cases hk),Nat.le_refl _,fun b hb=>⟨XJ b hb,rfl⟩⟩
def rC (w:World) (s:Sh) (e:Ending) (w':World):Prop :=
 ∃vx,e=.returned (.tuple #[.agg #[int i64 s.fin,int i64 s.value,int i64 s.cls,vx,int i64 s.used,int i64 s.steps],int i64 0])/\w'.ownsRow w.heap.size 2 1 vx s.out.length (s.out.map (Value.int .i64))/\Bl w w'
def GU (w0 w:World) (s:Sh) (e:Ending) (w':World):Prop :=
 ∃vx,e=.returned (.agg #[int i64 s.fin,int i64 s.value,int i64 s.cls,vx,int i64 s.used,int i64 s.steps])/\w'.ownsRow w0.heap.size 2 1 vx s.out.length (s.out.map (Value.int .i64))/\Bl w w'
theorem Df (f:Fi) (inp:List Int) (Z:Nat->Prop) (wx w0:World) (g:Mg) (o:Mo) (L:List Kl) (w:World) (H:RR 0 Z wx w0 g w o.h L) (ed:Ed f inp o) (F:Fix w0 g o.h) :
  Calls Tryz.prog 47 #[.pointer (some ⟨g.r,0,none⟩),.agg #[int i64 o.how,int i64 (im o.v).kind,int i64 (im o.v).n]] w fun e w'=>GU w0 w (od o) e w':=by
 obtain ⟨vc,vo,vx,R,-⟩:=H
 obtain ⟨r0,-,-,-,-,-,r6,r7,r8⟩:=R.runCells
 obtain ⟨Ax,cx,rfl,-,-⟩:=iq R.out
 have hrow:∀w',Bl w w'->w'.ownsRow w0.heap.size 2 1 (.slice Ax o.h.sh.out.length cx) o.h.sh.out.length (o.h.sh.out.map (Value.int .i64)):=fun w' hb=>(R.kept (dy hb none) (fun b e=>by cases e)).out
 by_cases h2:o.how=2
 ·obtain ⟨k3,n0,n1⟩:=ed.thr h2
  obtain ⟨n,hn⟩:∃n:Nat,o.v.n=n:=⟨o.v.n.toNat,by omega⟩
  have S9:od o=⟨2,0,(o.h.obj o.v.n).cls,o.h.sh.out,o.h.sh.used,o.h.sh.steps⟩:=by unfold od;rw [if_pos h2]
  have hc:=CU n (o.h.obj o.v.n).cls g o.h Ax o.h.sh.out.length cx w (R.rd F ed.len) (by omega) (by unfold Hp.obj;rw [hn,Int.toNat_natCast]) r0 r6 r7 r8
  rw [gp k3,h2,hn]
  rw [S9]
  refine hc.mono ?_
  rintro e w' ⟨rfl,hb⟩
  exact ⟨_,rfl,hrow w' hb,hb⟩
 ·have S9:od o=⟨o.how,if o.v.kind=3 then 0 else o.v.n,0,o.h.sh.out,o.h.sh.used,o.h.sh.steps⟩:=by unfold od;rw [if_neg h2]
  rw [S9]
  by_cases k3:o.v.kind=3
  ·rw [if_pos k3]
   refine (CT o.how (im o.v).kind (im o.v).n g o.h Ax o.h.sh.out.length cx w r0 r6 r7 r8 h2 k3).mono ?_
   rintro e w' ⟨rfl,hb⟩
   exact ⟨_,rfl,hrow w' hb,hb⟩
  ·rw [if_neg k3]
   have hc:=CS o.how (im o.v).kind (im o.v).n g o.h Ax o.h.sh.out.length cx w r0 r6 r7 r8 h2 k3
   have e:(im o.v).n=o.v.n:=by rw [eJ k3]
   refine hc.mono ?_
   rintro e' w' ⟨rfl,hb⟩
   exact ⟨_,by rw [e],hrow w' hb,hb⟩
theorem zv (f:Fi) (n:Nat) (args input:List Int) (fuel:Int) (w:World) (hmay:bW f=true) (hn:n<f.methods.length) (hr:mi (nth bO f.methods n).params=false) (Z:Nat->Prop) (V:World) (g:Mg) (hM:eE w g.M f.methods) (w4:World) (b cap:Nat) (H:RR 0 Z V w g w4 (gC f input fuel) []) (B:cu w4 b (lB (nth bO f.methods n).params args (nth bO f.methods n).params.length)) :
  Calls Tryz.prog 45 #[.pointer (some ⟨g.r,0,none⟩),int i64 (n:Int),.slice (some ⟨b,0,none⟩) (nth bO f.methods n).params.length cap] w4 fun e w'=>e=.returned (.tuple #[])/\∃k2:Kl,k2.c=bS (nth bO f.methods n) (lB (nth bO f.methods n).params args (nth bO f.methods n).params.length)/\RR 0 Z V w g w' (gK f input fuel) [k2]:=by
 obtain ⟨m1,m2,m3⟩:=vi hmay
 obtain ⟨p1,p2,p3,p4,p5,p6,p7,p8,p9,Ih,KJ⟩:=jh (m3 _ (bJ (d:=bO) hn))
 have hk:=pK hr
 have XL:=hJ (gC f input fuel) f.classes.length _ _ (du (nth bO f.methods n).params args (nth bO f.methods n).params.length) (oI hk) p9
 have hc:=AE 0 Z V w g (gC f input fuel) [] w4 H n (nth bO f.methods n) (nth bO f.methods n).locs.toNat b cap (lB (nth bO f.methods n).params args (nth bO f.methods n).params.length) (by decide) hn rfl hM (by omega) (by omega) (by rw [Nr hk];exact B) (by omega) XL.2
 rw [du] at hc
 refine hc.mono ?_
 rintro e w' ⟨rfl,k2,mw,H2⟩
 exact ⟨rfl,k2,mw,H2.heap 1 (-1)⟩
section
variable (f:Fi) (A B R I:Option Addr) (a b rc ic:Nat)
theorem xR (entry fuel:Int) (args input:List Int) (w:World) (hB:eE w B f.methods) (hI:input.length<=maxLen) (hR:args.length<=maxLen) (hM:∀w',Bl w w'->Calls Tryz.prog 16 #[rf f.classes.length f.methods.length A B a b] w' fun e w2=>e=.returned (.bool (bW f))/\Bl w' w2) (hE:lQ (bW f) f.methods entry fuel args.length input.length≠0) :
  Calls Tryz.prog 18 #[re,rf f.classes.length f.methods.length A B a b,int i64 entry,.slice R args.length rc,.slice I input.length ic,int i64 fuel] w fun e w'=>e=.returned (.tuple #[.agg #[int i64 0,int i64 0,int i64 0,.slice none 0 0,int i64 0,int i64 0],int i64 (lQ (bW f) f.methods entry fuel args.length input.length)])/\Bl w w':=by
 have cE:Hid (Bl w (((w.alloc lR).alloc (oC f.classes.length f.methods.length A B a b)).alloc iJ)):=(((Bl.refl w).alloc _).alloc _).alloc _
 have Nt:Hid (∀w',Bl w w'->Calls Tryz.prog 43 #[re,rf f.classes.length f.methods.length A B a b,int i64 entry,.slice R args.length rc,.slice I input.length ic,int i64 fuel] w' fun e w2=>e=.returned (int i64 (lQ (bW f) f.methods entry fuel args.length input.length))/\Bl w' w2) :=
  fun w' hb=>pb (bW f) f.classes.length f.methods A B R I a b rc ic args.length input.length entry fuel w' (hB.bl hb) hR hI (fun w2 dB=>hM w2 (hb.trans dB))
 have hz:(lQ (bW f) f.methods entry fuel args.length input.length !=0)=true:=by simpa using hE
 have wq:Hid ((((w.alloc lR).alloc (oC f.classes.length f.methods.length A B a b)).alloc iJ).heap[w.heap.size+1+1]?=some (.cells #[int i64 0,int i64 0,int i64 0,.slice none 0 0,int i64 0,int i64 0] 28 (0,0))):=by
  have:=aD ((w.alloc lR).alloc (oC f.classes.length f.methods.length A B a b)) #[int i64 0,int i64 0,int i64 0,.slice none 0 0,int i64 0,int i64 0] 28
  rw [World.size_alloc,World.size_alloc] at this
  exact this
 clear hB hI hR hM hE
 generalize lQ (bW f) f.methods entry fuel args.length input.length=E at *
 go_enter Tryz.func18,Tryz.ntmps18
 go_wp2_with (go_at_call 43;refine (Nt.out _ cE.out).mono ?_;rintro e w1 ⟨rfl,b1⟩;have q1:=ai b1 wq.out;have z0:w1.cell? ⟨w.heap.size+1+1,0,none⟩=some (int i64 0):=(aa q1).trans rfl;have z1:w1.cell? ⟨w.heap.size+1+1,1,none⟩=some (int i64 0):=(aa q1).trans rfl;have z2:w1.cell? ⟨w.heap.size+1+1,2,none⟩=some (int i64 0):=(aa q1).trans rfl;have z3:w1.cell? ⟨w.heap.size+1+1,3,none⟩=some (.slice none 0 0):=(aa q1).trans rfl;have z4:w1.cell? ⟨w.heap.size+1+1,4,none⟩=some (int i64 0):=(aa q1).trans rfl;have z5:w1.cell? ⟨w.heap.size+1+1,5,none⟩=some (int i64 0):=(aa q1).trans rfl;have fr:=ay q1;replace q1:=ab q1;have B1:=ab b1;clear b1)
 refine bodyPost_ret (dt rfl _ _ (w.heap.size+1+1) _ _ (int i64 E) _ _ rfl rfl (jv q1.out _ _ _ _ _ _) Tryz.underlying28 rfl jw) rfl ?_
 exact ⟨rfl,kO (cE.out.trans B1.out) (by omega) _ _ _ _ _ _⟩
theorem zw (n:Nat) (fuel:Int) (args input:List Int) (w:World) (hA:ct w A f.classes) (hB:eE w B f.methods) (hI:cL w I input) (hR:cL w R args) (hM:∀w',Bl w w'->Calls Tryz.prog 16 #[rf f.classes.length f.methods.length A B a b] w' fun e w2=>e=.returned (.bool (bW f))/\Bl w' w2) (hE:lQ (bW f) f.methods (n:Int) fuel args.length input.length=0) :
  Calls Tryz.prog 18 #[re,rf f.classes.length f.methods.length A B a b,int i64 (n:Int),.slice R args.length rc,.slice I input.length ic,int i64 fuel] w fun e w'=>rC w (od (runM fuel.toNat (gK f input fuel) [bS (nth bO f.methods n) (lB (nth bO f.methods n).params args (nth bO f.methods n).params.length)])) e w':=by
 have cE:Hid (Bl w (((w.alloc lR).alloc (oC f.classes.length f.methods.length A B a b)).alloc iJ)):=(((Bl.refl w).alloc _).alloc _).alloc _
 have Nt:Hid (∀w',Bl w w'->Calls Tryz.prog 43 #[re,rf f.classes.length f.methods.length A B a b,int i64 (n:Int),.slice R args.length rc,.slice I input.length ic,int i64 fuel] w' fun e w2=>e=.returned (int i64 0)/\Bl w' w2):=fun w' hb=>by
  have:=pb (bW f) f.classes.length f.methods A B R I a b rc ic args.length input.length (n:Int) fuel w' (hB.bl hb) hR.1 hI.1 (fun w2 dB=>hM w2 (hb.trans dB))
  rw [hE] at this
  exact this
 obtain ⟨e1,e2,e3,e4,e5,e6⟩:=vh hE
 rw [Int.toNat_natCast] at e5 e6
 have hn:n<f.methods.length:=by omega
 obtain ⟨m1,m2,m3⟩:=vi e1
 obtain ⟨p1,p2,p3,p4,p5,p6,p7,p8,p9,Ih,KJ⟩:=jh (m3 _ (bJ (d:=bO) hn))
 have hkk:=pK e5
 have Px:=ab hB
 have jX:=hB.1
 unfold maxLen at jX
 rcases hB.2 with z0|⟨mb,mo,rfl,hcell⟩
 ·omega
 obtain ⟨P,C,J,p,c,k,q0,-,-,-,-,-,-,-,hme⟩:=hcell n hn
 have PJ:Hid (∀g:Mg,g.A=A->g.M=some ⟨mb,mo,none⟩->g.I=I->∀h:Hp,h.file=f->h.input=input->Fix w g h):=fun g ga gm gi h hf hi=>⟨by rw [ga,hf];exact hA,by rw [gm,hf];exact hB,by rw [gi,hi];exact hI,by rw [hf];exact m1⟩
 have Ta:Hid (∀w',Bl w w'->Calls Tryz.prog 46 #[.slice P (nth bO f.methods n).params.length p,.slice R args.length rc] w' fun e w2=>e=.returned (.slice (some ⟨w'.heap.size,0,none⟩) (nth bO f.methods n).params.length (nth bO f.methods n).params.length)/\cu w2 w'.heap.size (lB (nth bO f.methods n).params args (nth bO f.methods n).params.length)/\Bl w' w2) :=
  fun w' hb=>yy P R p n rc (nth bO f.methods n).params args w' (hme.1.bl hb) (hR.bl hb) e6 p5 (fun q hq=>by
   have h1:=p9 _ (bJ (d:=cN) hq)
   have h2:=hkk q hq
   unfold fu at h1
   simp at h1
   omega)
 have PM:Hid (∀(Z:Nat->Prop) (V:World) (g:Mg) (gm:g.M=some ⟨mb,mo,none⟩) (w4:World) (b cap:Nat) (H:RR 0 Z V w g w4 (gC f input fuel) []) (B:cu w4 b (lB (nth bO f.methods n).params args (nth bO f.methods n).params.length)),
   Calls Tryz.prog 45 #[.pointer (some ⟨g.r,0,none⟩),int i64 (n:Int),.slice (some ⟨b,0,none⟩) (nth bO f.methods n).params.length cap] w4 fun e w'=>e=.returned (.tuple #[])/\∃k2:Kl,k2.c=bS (nth bO f.methods n) (lB (nth bO f.methods n).params args (nth bO f.methods n).params.length)/\RR 0 Z V w g w' (gK f input fuel) [k2]) :=
  fun Z V g gm w4 b cap H Bx=>zv f n args input fuel w e1 hn e5 Z V g (by rw [gm];exact hB) w4 b cap H Bx
 have Tb:=GQ f input args fuel n e1 (yt hB) (pG hI) (pG hR) e3 hn e5 e6
 have ED:=(D7 fuel.toNat _ _ Tb.1).1
 have Tc:Hid (∀(Z:Nat->Prop) (V:World) (g:Mg) (ga:g.A=A) (gm:g.M=some ⟨mb,mo,none⟩) (gi:g.I=I) (k2:Kl) (w5:World) (mw:k2.c=bS (nth bO f.methods n) (lB (nth bO f.methods n).params args (nth bO f.methods n).params.length)) (H:RR 0 Z V w g w5 (gK f input fuel) [k2]),
   Calls Tryz.prog 48 #[.pointer (some ⟨g.r,0,none⟩)] w5 fun e w'=>PB Z V w g (runM fuel.toNat (gK f input fuel) [bS (nth bO f.methods n) (lB (nth bO f.methods n).params args (nth bO f.methods n).params.length)]) e w'):=fun Z V g ga gm gi k2 w5 mw H=>by
  have h0:=until_any (S8 f input) Z V w g fuel.toNat (gK f input fuel) [k2] w5 H (by simp only [List.map_cons,List.map_nil,mw];exact Tb) (Kr f input w g m2.2 (by omega) (fun h hf hi=>PJ.out g ga gm gi h hf hi))
  simp only [List.map_cons,List.map_nil,mw] at h0
  exact h0
 generalize runM fuel.toNat (gK f input fuel) [bS (nth bO f.methods n) (lB (nth bO f.methods n).params args (nth bO f.methods n).params.length)]=o at *
 have Uu:Hid (∀(Z:Nat->Prop) (V:World) (g:Mg) (ga:g.A=A) (gm:g.M=some ⟨mb,mo,none⟩) (gi:g.I=I) (L:List Kl) (w6:World) (H:RR 0 Z V w g w6 o.h L),
   Calls Tryz.prog 47 #[.pointer (some ⟨g.r,0,none⟩),.agg #[int i64 o.how,int i64 (im o.v).kind,int i64 (im o.v).n]] w6 fun e w'=>GU w w6 (od o) e w') :=
  fun Z V g ga gm gi L w6 H=>Df f input Z V w g o L w6 H ED (PJ.out g ga gm gi o.h ED.file ED.input)
 obtain ⟨s,hs⟩:∃s,od o=s:=⟨_,rfl⟩
 rw [hs] at Uu ⊢
 have n0:(0:Int)<=(n:Int):=by omega
 have n1:(n:Int)<(f.methods.length:Int):=by omega
 obtain ⟨L0,L1⟩:=bD w #[.func (.func 16) #[] #[],.func (.func 17) #[] #[]] #[.slice A f.classes.length a,.slice (some ⟨mb,mo,none⟩) f.methods.length b] 40 25
 have oZ:Hid (_):=ai ((Bl.refl ((w.alloc lR).alloc (oC f.classes.length f.methods.length A (some ⟨mb,mo,none⟩) a b))).alloc iJ) L0
 have gx:Hid (_):=ai ((Bl.refl ((w.alloc lR).alloc (oC f.classes.length f.methods.length A (some ⟨mb,mo,none⟩) a b))).alloc iJ) L1
 have wq:Hid ((((w.alloc lR).alloc (oC f.classes.length f.methods.length A (some ⟨mb,mo,none⟩) a b)).alloc iJ).heap[w.heap.size+1+1]?=some (.cells #[int i64 0,int i64 0,int i64 0,.slice none 0 0,int i64 0,int i64 0] 28 (0,0))):=by
  have:=aD ((w.alloc lR).alloc (oC f.classes.length f.methods.length A (some ⟨mb,mo,none⟩) a b)) #[int i64 0,int i64 0,int i64 0,.slice none 0 0,int i64 0,int i64 0] 28
  rw [World.size_alloc,World.size_alloc] at this
  exact this
 clear hA hB hI hR hM hE e1 e2 e3 e4 e5 e6 m1 m2 m3 p1 p2 p3 p4 p5 p6 p7 p8 p9 Ih KJ hkk hcell hme Tb ED hs Px L0 L1 hn
 go_enter Tryz.func18,Tryz.ntmps18
 go_wp2_with (go_at_call 43;refine (Nt.out _ cE.out).mono ?_;rintro e w1 ⟨rfl,b1⟩;have B1:=ab b1;have y0:=ai b1 oZ.out;have y1:=ai b1 gx.out;have QO:Hid (∀w',Bl w1 w'->(fun w'=>Hid (Bl w1 w')/\w'.cell? ⟨w.heap.size+1,0,none⟩=some (.slice A f.classes.length a)/\w'.cell? ⟨w.heap.size+1,1,none⟩=some (.slice (some ⟨mb,mo,none⟩) f.methods.length b)/\w'.cell? ⟨w.heap.size,1,none⟩=some (.func (.func 17) #[] #[])) w'):=(fun w' hb=>⟨hb,(aa (ai hb y1)).trans rfl,(aa (ai hb y1)).trans rfl,(aa (ai hb y0)).trans rfl⟩);have AO:=(QO.out w1 (Bl.refl w1)).2.2.1;clear b1 y0 y1)
 refine wp_region_held_drew (S:=fun w'=>Hid (Bl w1 w')/\w'.cell? ⟨w.heap.size+1,0,none⟩=some (.slice A f.classes.length a)/\w'.cell? ⟨w.heap.size+1,1,none⟩=some (.slice (some ⟨mb,mo,none⟩) f.methods.length b)/\w'.cell? ⟨w.heap.size,1,none⟩=some (.func (.func 17) #[] #[])) (by kernel_rfl) ?_ (fun ae=>?_)
 ·exact QO.out _ (Bl.refl _).drew
 iterate 8 (refine tn rfl (by kernel_rfl) (fun _ _ _ h=>h) (by intro _ h;go_split_ands;go_simp<;>with_reducible rfl) ae ?_;try simp only [aS,aN,aT,a0,a1])
 refine bI (i:=2) (by kernel_rfl) rfl fun K hK=>?_
 go_simp
 go_at_call 44
 refine (xB A f.classes.length a w1.drew).mono ?_
 rintro e w2 ⟨he,eK⟩
 have QJ:e=.returned (.pointer (some ⟨w1.heap.size+1,0,none⟩)):=he
 clear he
 subst QJ
 have QP:Hid (w2=(w1.drew.alloc (.map #[] 0)).alloc (Lt A f.classes.length a w1.heap.size)):=eK
 have B2:Hid (Bl w1 w2):=by rw [QP.out];exact ((Bl.refl w1).drew.alloc _).alloc _
 clear eK
 go_wp2_with fail
 refine hK.out _ _ (QO.out _ B2.out) (fun ah=>?_)
 try simp only [aS,aN,aT,a0,a1]
 refine tn rfl (by kernel_rfl) (fun _ _ _ h=>h) (by intro _ h;go_split_ands;go_simp<;>with_reducible rfl) ah ?_
 try simp only [aS,aN,aT,a0,a1]
 refine bI (i:=10) (by kernel_rfl) rfl fun K hK=>?_
 go_simp
 refine hK.out _ _ (QO.out _ (B2.out.alloc _)) (fun aX=>?_)
 try simp only [aS,aN,aT,a0,a1]
 refine tn rfl (by kernel_rfl) (fun _ _ _ h=>h) (by intro _ h;go_split_ands;go_simp<;>with_reducible rfl) aX ?_
 try simp only [aS,aN,aT,a0,a1]
 refine wpAnyH_done (by kernel_rfl) ?_ _
 have tf:w2.heap.size=w1.heap.size+2:=by rw [QP.out];simp
 obtain ⟨V,hV⟩:∃V,V=w2.alloc (.cells #[.pointer (some ⟨w1.heap.size+1,0,none⟩),.slice (some ⟨mb,mo,none⟩) f.methods.length b,.func (.func 17) #[] #[],.slice none 0 0,.slice I input.length ic,int i64 fuel,int i64 0,int i64 0,.slice none 0 0] 90):=⟨_,rfl⟩
 have HV:Hid (Bl w1 V):=by rw [hV];exact B2.out.alloc _
 have EY:Hid (RR 0 (fun b=>b<w1.heap.size) V w ⟨w2.heap.size,w1.heap.size+1,w1.heap.size,A,a,some ⟨mb,mo,none⟩,b,I,ic⟩ V (gC f input fuel) []):=by
  refine GR f input fuel w V _ (fun b=>b<w1.heap.size) ((cE.out.trans B1.out).trans HV.out) ?_ ?_ ?_ ?_ ?_ ?_ ?_ ?_
  ·show w.heap.size<=w2.heap.size
   have:=cE.out.size;have:=B1.out.size;omega
  ·show w.heap.size<=w1.heap.size+1
   have:=cE.out.size;have:=B1.out.size;omega
  ·show w.heap.size<=w1.heap.size
   have:=cE.out.size;have:=B1.out.size;omega
  ·rw [hV];exact aD _ _ _
  ·rw [hV]
   refine ai ((Bl.refl w2).alloc _) ?_
   rw [QP.out]
   have:=aD (w1.drew.alloc (.map #[] 0)) #[.slice A f.classes.length a,.slice none 0 0,.map (some w1.heap.size)] 171
   have e:(w1.drew.alloc (.map #[] 0)).heap.size=w1.heap.size+1:=by simp
   rw [e] at this
   exact this
  ·have hm:w2.ownsMap Tryz.prog 265 fk w1.heap.size 0 (.map []):=by rw [QP.out];exact ownsMap_at rfl _
   rw [hV]
   exact hm.alloc _
  ·intro b hb
   show b≠w2.heap.size/\b≠w1.heap.size+1/\b≠w1.heap.size
   omega
  ·intro b hb
   have:=HV.out.size;omega
 have x1:V.cell? ⟨w.heap.size+1,1,none⟩=some (.slice (some ⟨mb,mo,none⟩) f.methods.length b):=HV.out.cell AO
 have x2:V.cell? ⟨mb,mo+n*8,none⟩=some (.slice P (nth bO f.methods n).params.length p):=((cE.out.trans B1.out).trans HV.out).cell q0
 rw [<-hV]
 clear hV tf
 have HZ:Hid (∀w':World,(∀b':Nat,b'<w1.heap.size->w'.heap[b']?=V.heap[b']?)->w'.heap[w.heap.size+1+1]?=some (.cells #[int i64 0,int i64 0,int i64 0,.slice none 0 0,int i64 0,int i64 0] 28 (0,0))):=fun w' hw'=>by
  have hlt:w.heap.size+1+1<w1.heap.size:=Nat.lt_of_lt_of_le (af wq.out) B1.out.size
  rw [hw' _ hlt]
  exact ai (B1.out.trans HV.out) wq.out
 clear aX ae ah AO q0
 go_wp2_with (first
  | (go_at_call 46;refine (Ta.out V ((cE.out.trans B1.out).trans HV.out)).mono ?_;rintro e w4 ⟨rfl,Td,b4⟩;replace Td:=ab Td;replace b4:=ab b4)
  | (go_at_call 45;refine (PM.out (fun b=>b<w1.heap.size) V ⟨w2.heap.size,w1.heap.size+1,w1.heap.size,A,a,some ⟨mb,mo,none⟩,b,I,ic⟩ rfl w4 _ _ (EY.out.bl b4.out) Td.out).mono ?_;rintro e w5 ⟨rfl,k2,mw,H5⟩;replace H5:=ab H5;replace mw:=ab mw)
  | (go_at_call 48;refine (Tc.out (fun b=>b<w1.heap.size) V ⟨w2.heap.size,w1.heap.size+1,w1.heap.size,A,a,some ⟨mb,mo,none⟩,b,I,ic⟩ rfl rfl rfl k2 w5 mw.out H5.out).mono ?_;rintro e w6 ⟨rfl,L6,H6⟩;have Q6:=ab H6;clear H6)
  | (go_at_call 47;refine (Uu.out (fun b=>b<w1.heap.size) V ⟨w2.heap.size,w1.heap.size+1,w1.heap.size,A,a,some ⟨mb,mo,none⟩,b,I,ic⟩ rfl rfl rfl L6 w6 Q6.out).mono ?_;rintro e w7 ⟨vx,rfl,ow,b7⟩;obtain ⟨Ax,cx,rfl,-,-⟩:=iq ow;have q7:=ai b7 (HZ.out w6 (fun b' vt=>(Q6.out.z (Z:=fun b=>b<w1.heap.size) vt)));have z0:w7.cell? ⟨w.heap.size+1+1,0,none⟩=some (int i64 0):=(aa q7).trans rfl;have z1:w7.cell? ⟨w.heap.size+1+1,1,none⟩=some (int i64 0):=(aa q7).trans rfl;have z2:w7.cell? ⟨w.heap.size+1+1,2,none⟩=some (int i64 0):=(aa q7).trans rfl;have z3:w7.cell? ⟨w.heap.size+1+1,3,none⟩=some (.slice none 0 0):=(aa q7).trans rfl;have z4:w7.cell? ⟨w.heap.size+1+1,4,none⟩=some (int i64 0):=(aa q7).trans rfl;have z5:w7.cell? ⟨w.heap.size+1+1,5,none⟩=some (int i64 0):=(aa q7).trans rfl;have fr:=ay q7;replace q7:=ab q7;have OW:=ab ow;have B7:=ab b7;clear ow b7))
 refine bodyPost_ret (dt rfl _ _ (w.heap.size+1+1) _ _ (int i64 0) _ _ rfl rfl (jv q7.out _ _ _ _ _ _) Tryz.underlying28 rfl jw) rfl ?_
 exact ⟨_,rfl,AM OW.out q7.out _ _ _ _ _ _,kO (Q6.out.bl0.trans B7.out) (by omega) _ _ _ _ _ _⟩
end
abbrev PN (f:Fi) (A B R I:Option Addr) (a b rc ic:Nat) (entry fuel:Int) (args input:List Int):Array Value:=#[rf f.classes.length f.methods.length A B a b,int i64 entry,.slice R args.length rc,.slice I input.length ic,int i64 fuel]
theorem Ks {w:World} {base mr:Nat} {e:TypeId} {size n:Nat} {v:Value} {xs:List Value} (h:w.ownsRow base e size v n xs) (hb:mr<=base):w.ownsRow mr e size v n xs:=by
 refine ⟨h.1,?_⟩
 rcases h.2 with h1|⟨gb,cap,cur,e1,h2,h3⟩
 ·exact Or.inl h1
 ·exact Or.inr ⟨gb,cap,cur,e1,Nat.le_trans hb h2,h3⟩
section
variable (f:Fi) (A B:Option Addr) (a b:Nat) (w:World)
theorem GW:((w.alloc (oC f.classes.length f.methods.length A B a b)).alloc iJ).heap[w.heap.size]?=some (.cells #[.slice A f.classes.length a,.slice B f.methods.length b] 25 (0,0))/\((w.alloc (oC f.classes.length f.methods.length A B a b)).alloc iJ).heap[w.heap.size+1]?=some (.cells #[int i64 0,int i64 0,int i64 0,.slice none 0 0,int i64 0,int i64 0] 28 (0,0)) :=
 bD w _ _ _ _
theorem xS:Bl w (((w.alloc (oC f.classes.length f.methods.length A B a b)).alloc iJ).alloc lR)/\(((w.alloc (oC f.classes.length f.methods.length A B a b)).alloc iJ).alloc lR).heap[w.heap.size+1]?=some (.cells #[int i64 0,int i64 0,int i64 0,.slice none 0 0,int i64 0,int i64 0] 28 (0,0)) :=
 ⟨(((Bl.refl w).alloc _).alloc _).alloc _,ai ((Bl.refl _).alloc _) (GW f A B a b w).2⟩
end
section
variable (f:Fi) (A B R I:Option Addr) (a b rc ic:Nat) (entry fuel:Int) (args input:List Int) (w:World)
theorem GX (E:Int) (hF:∀w',Bl w w'->Calls Tryz.prog 18 #[re,rf f.classes.length f.methods.length A B a b,int i64 entry,.slice R args.length rc,.slice I input.length ic,int i64 fuel] w' fun e w2=>e=.returned (.tuple #[.agg #[int i64 0,int i64 0,int i64 0,.slice none 0 0,int i64 0,int i64 0],int i64 E])/\Bl w' w2) :
  Calls Tryz.prog 7 (PN f A B R I a b rc ic entry fuel args input) w fun e w'=>e=.returned (.tuple #[.agg #[int i64 0,int i64 0,int i64 0,.slice none 0 0,int i64 0,int i64 0],int i64 E])/\Bl w w':=by
 have HF:=ab hF
 have HL:=ab (xS f A B a b w)
 clear hF
 go_enter Tryz.func7,Tryz.ntmps7
 go_wp2_with (go_at_call 18;refine (HF.out _ HL.out.1).mono ?_;rintro e w1 ⟨rfl,b1⟩;have q1:=ai b1 HL.out.2;have z0:w1.cell? ⟨w.heap.size+1,0,none⟩=some (int i64 0):=(aa q1).trans rfl;have z1:w1.cell? ⟨w.heap.size+1,1,none⟩=some (int i64 0):=(aa q1).trans rfl;have z2:w1.cell? ⟨w.heap.size+1,2,none⟩=some (int i64 0):=(aa q1).trans rfl;have z3:w1.cell? ⟨w.heap.size+1,3,none⟩=some (.slice none 0 0):=(aa q1).trans rfl;have z4:w1.cell? ⟨w.heap.size+1,4,none⟩=some (int i64 0):=(aa q1).trans rfl;have z5:w1.cell? ⟨w.heap.size+1,5,none⟩=some (int i64 0):=(aa q1).trans rfl;have fr:=ay q1;replace q1:=ab q1;have B1:=ab b1;clear b1)
 refine bodyPost_ret (dt rfl _ _ (w.heap.size+1) _ _ (int i64 E) _ _ rfl rfl (jv q1.out _ _ _ _ _ _) Tryz.underlying28 rfl jw) rfl ?_
 exact ⟨rfl,kO (HL.out.1.trans B1.out) (Nat.le_succ _) _ _ _ _ _ _⟩
theorem Kt (s:Sh) (hF:∀w',Bl w w'->Calls Tryz.prog 18 #[re,rf f.classes.length f.methods.length A B a b,int i64 entry,.slice R args.length rc,.slice I input.length ic,int i64 fuel] w' fun e w2=>rC w' s e w2) :
  Calls Tryz.prog 7 (PN f A B R I a b rc ic entry fuel args input) w fun e w'=>rC w s e w':=by
 have HF:=ab hF
 have HL:=ab (xS f A B a b w)
 clear hF
 go_enter Tryz.func7,Tryz.ntmps7
 go_wp2_with (go_at_call 18;refine (HF.out _ HL.out.1).mono ?_;rintro e w1 ⟨vx,rfl,ow,b1⟩;obtain ⟨Ax,cx,rfl,-,-⟩:=iq ow;have q1:=ai b1 HL.out.2;have z0:w1.cell? ⟨w.heap.size+1,0,none⟩=some (int i64 0):=(aa q1).trans rfl;have z1:w1.cell? ⟨w.heap.size+1,1,none⟩=some (int i64 0):=(aa q1).trans rfl;have z2:w1.cell? ⟨w.heap.size+1,2,none⟩=some (int i64 0):=(aa q1).trans rfl;have z3:w1.cell? ⟨w.heap.size+1,3,none⟩=some (.slice none 0 0):=(aa q1).trans rfl;have z4:w1.cell? ⟨w.heap.size+1,4,none⟩=some (int i64 0):=(aa q1).trans rfl;have z5:w1.cell? ⟨w.heap.size+1,5,none⟩=some (int i64 0):=(aa q1).trans rfl;have fr:=ay q1;replace q1:=ab q1;have B1:=ab b1;have OW:=ab ow;clear b1 ow)
 refine bodyPost_ret (dt rfl _ _ (w.heap.size+1) _ _ (int i64 0) _ _ rfl rfl (jv q1.out _ _ _ _ _ _) Tryz.underlying28 rfl jw) rfl ?_
 exact ⟨_,rfl,AM (Ks OW.out (HL.out.1.size)) q1.out _ _ _ _ _ _,kO (HL.out.1.trans B1.out) (Nat.le_succ _) _ _ _ _ _ _⟩
end
end Go.Proofs.YtgiiapenmjollaaGreat
