import Derived.Test.YtgiiapenmjollaaGreatRraz
import Derived.WalkSmall
namespace Go.Proofs.YtgiiapenmjollaaGreat
set_option linter.all false
set_option maxHeartbeats 40000000
set_option maxRecDepth 100000
open Go.RowKit
open Tryz
variable {args:List Int}
theorem sG {nc:Nat} {t:Ty} (h:mn nc t=true):0<=t.kind/\t.kind<=3:=by
 unfold mn fP at h;rw [Bool.or_eq_true,decide_eq_true_eq,decide_eq_true_eq] at h;omega
theorem Mr (f:Fi) (inp:List Int) (w0:World) (g:Mg) (h:Hp) (k:Kl) (L:List Kl) (hf:h.file=f) (dL:nR f) (iL:f.methods.length<=8) (gh:Gh 1 h) (kd:Kd h) (ho:h.over=false) (ht:h.thrown=-1) (hcl:h.calls=((k::L).length:Int)) (gc:Gc h k.c) (hp:0<=k.c.pc/\k.c.pc<=k.c.m.code.length) (hI:IC h (L.map (·.c))) (F:Fix w0 g h) (VA:h.input.length<=1000000) :
  Te w0 g h k L (dV h k.c (L.map (·.c)))∨RQ w0 g h k L (dV h k.c (L.map (·.c)))∨XV w0 g h k L (dV h k.c (L.map (·.c))):=by
 have hlen:L.length<=100:=by have:=gh.calls;rw [hcl] at this;simp at this;omega
 have hs:h.stops=false:=by unfold Hp.stops;rw [ho,ht];rfl
 unfold dV
 by_cases hlt:k.c.pc<k.c.m.code.length
 ·rw [if_neg (by simpa using hlt)]
  obtain ⟨ok,iok⟩:=nT gc ⟨hp.1,hlt⟩
  have tw:BO h.file.classes h.file.methods k.c.m.regs k.c.m.ret.kind (nth eR k.c.m.code k.c.pc.toNat):=KY ((j6 gc.me).2.2.2.2.2.2.1 _ (bE (d:=eR) (by omega)))
  have Pr:=gc.len
  by_cases kV:(nth eR k.c.m.code k.c.pc.toNat).op=20
  ·rw [if_pos kV]
   have Db:=sG (j6 gc.me).2.2.2.2.2.2.2.2.2
   unfold zt
   by_cases wF:k.c.m.ret.kind=0
   ·rw [if_pos wF]
    exact (Cp w0 g h k L aE kV ⟨hp.1,hlt⟩ hI hlen (by decide) (fun X wx w H=>x9 1 X wx w0 g h _ k.a k.c _ w H wF)).elim Or.inl (fun z=>Or.inr (Or.inl z))
   ·rw [if_neg wF]
    have qp:=ok.ret kV wF
    have nM:=tw.r2 kV
    have hv:=(gc.rd qp).ref
    by_cases l9:h.of (k.c.rd (nth eR k.c.m.code k.c.pc.toNat).a) k.c.m.ret=true
    ·rw [if_pos l9]
     exact (Cp w0 g h k L _ kV ⟨hp.1,hlt⟩ hI hlen (by rw [qj l9];exact Db) (fun X wx w H=>Ap 1 X wx w0 g h _ k.a k.c _ w H F gh.len (by omega) (by omega) (fun e=>by have:=nM e;omega) hv l9)).elim Or.inl (fun z=>Or.inr (Or.inl z))
    ·rw [if_neg l9]
     refine Or.inr (Or.inl ⟨⟨rfl,(by show (6:Int)≠2;decide)⟩,fun Z wx w H=>?_⟩)
     obtain ⟨cb,co,Q,q,A⟩:=H.top.ati ⟨hp.1,hlt⟩
     refine (DT (fun e w'=>e=bF 6 0 0/\Bl w w') _ _ w0 g h _ k.a k.c w H.top (nth eR k.c.m.code k.c.pc.toNat).op (nth eR k.c.m.code k.c.pc.toNat).a (nth eR k.c.m.code k.c.pc.toNat).b (nth eR k.c.m.code k.c.pc.toNat).c (nth eR k.c.m.code k.c.pc.toNat).n (nth eR k.c.m.code k.c.pc.toNat).args cb co Q q _ A kV (fun w' hb=>DS 1 _ _ w0 g h _ k.a k.c (nth eR k.c.m.code k.c.pc.toNat).a w' (H.top.bl hb) F gh.len (by omega) (by omega) (fun e=>by have:=nM e;omega) hv (by simpa using l9)) (fun w2 hb=>⟨rfl,hb⟩)).mono ?_
     rintro e w' ⟨rfl,hb⟩
     exact ⟨rfl,_,trivial,(H.bl hb).less⟩
  ·rw [if_neg kV]
   by_cases oA:(nth eR k.c.m.code k.c.pc.toNat).op=18
   ·rw [if_pos oA]
    exact (ES w0 g h k L _ rfl oA ok tw (hf▸dL) (by rw [hf];exact iL) gh gc ⟨hp.1,hlt⟩ hI hcl F).elim Or.inl (fun z=>Or.inr (Or.inl z))
   ·rw [if_neg oA]
    exact Ps w0 g h k L _ ho ht hI hcl ⟨hp.1,hlt⟩ (kj gh kd gc ho ht (hf▸dL:nR h.file).1 ok iok oA kV ⟨hp.1,hlt⟩) (fun X wx w H=>Lk X wx w0 g h _ k.a k.c _ h.file.methods k.c.m.ret.kind rfl ⟨hp.1,hlt⟩ w H ⟨F,gh,kd,gc,hs,ok,tw,iok,(hf▸dL:nR h.file).1,VA⟩ oA kV)
 ·rw [if_pos hlt]
  exact Or.inr (Or.inl (Pt w0 g h k L ho ht gc hlt))
def VB (f:Fi) (inp:List Int) (n:Nat) (h:Hp) (cs:List aL):Prop:=IM f inp h cs/\cG n h
theorem Ms (f:Fi) (inp:List Int) (w0:World) (g:Mg) (iL:f.methods.length<=8) (VA:inp.length<=1000000) (hF:∀h:Hp,h.file=f->h.input=inp->Fix w0 g h):Js (VB f inp) w0 g:=by
 rintro n h L ⟨im,en⟩
 obtain ⟨c,cs,e,gc,J6,pP,hI⟩:=im.ex
 cases L with
 | nil=>cases e
 | cons k L2 =>
  simp only [List.map_cons,List.cons.injEq] at e
  obtain ⟨rfl,rfl⟩:=e
  have hcl:=im.calls
  rw [List.length_map] at hcl
  cases hb:h.stepB with
  | false =>
   have hle:h.fuel<=h.sh.steps:=by unfold Hp.stepB at hb;rw [im.over] at hb;simpa using hb
   refine Or.inr (Or.inl ⟨0,aE,h,?_,by decide,fun Z wx w H=>(D2 0 Z wx w0 g h _ w H hle).mono ?_⟩)
   ·cases n with
    | zero=>rfl
    | succ n=>show (if h.stepB=false then _ else _)=_;rw [if_pos hb]
   ·rintro e w' ⟨rfl,H'⟩
    exact ⟨rfl,_,trivial,H'⟩
  | true =>
   obtain ⟨q1,q2,q3,q4,q5,q6⟩:=fW hb
   have hst:h.sh.steps<h.fuel:=by unfold Hp.stepB at hb;simp at hb;exact hb.2
   cases n with
   | zero=>unfold cG at en;omega
   | succ n =>
    have en1:cG n h.step:=fX en hb
    have sl:=jC h
    have QA:=im.gh.step hb
    have N3:=gc.le sl
    have Tg:=hI.le sl
    have E2:h.step.file=f:=q5.trans im.file
    have PJ:h.step.input=inp:=sl.input.trans im.input
    have MD:h.step.thrown=-1:=q4.trans im.thr
    have E1:h.step.calls=((k::L2).length:Int):=q6.trans hcl
    have F1:=hF h.step E2 PJ
    have hlim:0<=h.sh.steps/\h.sh.steps<1000000:=by have:=im.gh.o;have:=im.gh.fuel;omega
    have D:=Mr f inp w0 g h.step k L2 E2 im.may iL QA im.kd.step q3 MD E1 N3 ⟨J6,pP⟩ Tg F1 (by rw [PJ];exact VA)
    have hinv:(dV h.step k.c (L2.map (·.c))).fin=false->IM f inp (dV h.step k.c (L2.map (·.c))).h (dV h.step k.c (L2.map (·.c))).cs:=fun hfin=>xF E2 PJ im.may QA im.kd.step q3 MD (by rw [E1];simp) N3 ⟨J6,pP⟩ Tg hfin
    have KI:=qm h.step k.c (L2.map (·.c))
    have hrun:runM (n+1) h (k.c::L2.map (·.c))=if (dV h.step k.c (L2.map (·.c))).fin=true then dV h.step k.c (L2.map (·.c)) else runM n (dV h.step k.c (L2.map (·.c))).h (dV h.step k.c (L2.map (·.c))).cs:=by
     show (if h.stepB=false then _ else _)=_
     rw [if_neg (by rw [hb];decide)]
    generalize dV h.step k.c (L2.map (·.c))=o at *
    have Nr:(o.h.fuel-o.h.sh.steps).toNat<(h.fuel-h.sh.steps).toNat:=by have:=KI.fuel;have:=KI.steps;omega
    have RT:cG n o.h:=by unfold cG at en1 ⊢;have:=KI.fuel;have:=KI.steps;omega
    rcases D with ⟨a1,a2⟩|⟨⟨b1,b2⟩,b3⟩|⟨h1,Tf,c1,c2,c3,c4,ckd,c5,c6,c7,c8⟩
    ·refine Or.inl ⟨n,o.h,o.cs,?_,⟨hinv a1,RT⟩,Nr,fun Z wx w H=>v7 0 Z wx w0 g h k L2 w H hb hlim _ _ (Or.inl rfl) (a2 Z wx)⟩
     show runM (n+1) h (k.c::L2.map (·.c))=_
     rw [hrun,a1,if_neg (by decide)]
    ·refine Or.inr (Or.inl ⟨o.how,o.v,o.h,?_,b2,fun Z wx w H=>v7 0 Z wx w0 g h k L2 w H hb hlim _ _ (Or.inr ⟨_,rfl⟩) (b3 Z wx)⟩)
     have hfi:o.fin=true:=by rw [b1];rfl
     show runM (n+1) h (k.c::L2.map (·.c))=_
     rw [hrun,if_pos hfi]
     exact b1
    ·refine Or.inr (Or.inr ⟨n,h1,o,⟨3,h1.thrown⟩,hrun,fun hfin=>⟨⟨hinv hfin,RT⟩,Nr⟩,⟨rfl,c2,c4.thr.2,rfl⟩,hF h1 (c5.file.trans E2) (c5.input.trans PJ),c4.len,fun Z wx w H=>v7 0 Z wx w0 g h k L2 w H hb hlim _ _ (Or.inr ⟨_,rfl⟩) (c8 Z wx)⟩)
section
variable {ts:List Ty}
theorem wo {q:Nat} (hq:q<ts.length):nth aE (lI ts args ts.length) q=PH ts args q:=by
 rw [cg (by rw [du];exact hq)]
 simp [lI,hq]
theorem Cr {v:Va} (hv:v∈lI ts args ts.length):∃q,q<ts.length/\v=PH ts args q:=by
 obtain ⟨q,hq,rfl⟩:=List.getElem_of_mem hv
 have Sm:q<ts.length:=by rw [du] at hq;exact hq
 exact ⟨q,Sm,by rw [<-cg (d:=aE) hq,wo Sm]⟩
theorem qA (h:mr ts=false):∀q,q<ts.length->(nth bS ts q).kind≠3:=by
 intro q hq e
 rw [xg hq e] at h
 cases h
theorem Pw (h:∀q,q<ts.length->(nth bS ts q).kind≠3):(lI ts args ts.length).map im=lI ts args ts.length:=by
 rw [List.map_congr_left (g:=id)]
 ·exact List.map_id _
 ·intro v hv
  obtain ⟨q,hq,rfl⟩:=Cr hv
  exact iD (h q hq)
end
section
variable {h:Hp} {ts:List Ty} {args:List Int}
theorem pj (hk:∀q,q<ts.length->(nth bS ts q).kind≠3):h.enterL (lI ts args ts.length) ts=true:=by
 refine (ma h _ ts (du ts args _)).2 fun q hq=>?_
 rw [wo hq]
 unfold Hp.of
 have:=hk q hq
 simp [PH,this]
theorem Px (hk:∀q,q<ts.length->(nth bS ts q).kind≠3) (hl:args.length=ts.length) (ha:∀n∈args,cJ n):∀v∈lI ts args ts.length,jw h v:=by
 intro v hv
 obtain ⟨q,hq,rfl⟩:=Cr hv
 refine ⟨fun e=>absurd e (hk q hq),?_⟩
 show cJ (if (nth bS ts q).kind=1 then wrap32 (nth (0:Int) args q) else nth (0:Int) args q)
 split
 ·exact qd _
 ·exact ha _ (bE (by omega))
end
theorem wq {B:Bool} {ms:List Me} {entry fuel:Int} {na ni:Nat} (h:lR B ms entry fuel na ni=0):B=true/\(0<=entry/\entry<(ms.length:Int))/\(0<=fuel/\fuel<=60000)/\ni<=1000/\mr (nth bT ms entry.toNat).params=false/\na=(nth bT ms entry.toNat).params.length:=by
 unfold lR at h
 split at h
 ·cases h
 ·rename_i h1
  split at h
  ·cases h
  ·rename_i h2
   split at h
   ·cases h
   ·rename_i h3
    split at h
    ·rename_i h4
     rw [Bool.and_eq_true] at h4
     have h5:mr (nth bT ms entry.toNat).params=false:=by simpa using h4.1
     have h6:na=(nth bT ms entry.toNat).params.length:=of_decide_eq_true h4.2
     have h7:(0<=entry/\entry<(ms.length:Int))/\(0<=fuel/\fuel<=60000):=by omega
     exact ⟨by simpa using h1,h7.1,h7.2,by omega,h5,h6⟩
    ·cases h
def gG (f:Fi) (input:List Int) (fuel:Int):Hp:={ fZ f input fuel with calls:=1 }
theorem wv {f:Fi} (h:bJ f=true):dt f.classes=true/\(1<=f.methods.length/\f.methods.length<=8)/\∀m∈f.methods,fG f.classes f.methods m=true:=by
 unfold bJ at h
 rw [Bool.and_eq_true,Bool.and_eq_true,List.all_eq_true] at h
 exact ⟨h.1.1,of_decide_eq_true h.1.2,h.2⟩
theorem Mt {cs:List Cl} (h:dt cs=true):xA cs:=by
 intro c k hc hk
 have:=gX h (c:=c.toNat) (k:=k.toNat) (by omega) (by omega)
 rw [Int.toNat_of_nonneg hc.1,Int.toNat_of_nonneg hk.1] at this
 omega
theorem Jv (f:Fi) (input args:List Int) (fuel:Int) (n:Nat) (dL:bJ f=true) (hok:∀m∈f.methods,∀i∈m.code,i.ok) (hI:∀x∈input,cJ x) (hA:∀x∈args,cJ x) (hf:0<=fuel/\fuel<=60000) (hn:n<f.methods.length) (hr:mr (nth bT f.methods n).params=false) (hl:args.length=(nth bT f.methods n).params.length) :
  VB f input fuel.toNat (gG f input fuel) [cv (nth bT f.methods n) (lI (nth bT f.methods n).params args (nth bT f.methods n).params.length)]:=by
 obtain ⟨m1,m2,m3⟩:=wv dL
 have hm:=bE (d:=bT) hn
 have hk:=qA hr
 have gc:Gc (gG f input fuel) (cv (nth bT f.methods n) (lI (nth bT f.methods n).params args (nth bT f.methods n).params.length)) :=
  nQ (m3 _ hm) (hok _ hm) (du _ _ _) (Px hk hl hA) (pj hk)
 refine ⟨⟨rfl,rfl,⟨Mt m1,fun m h=>⟨m3 m h,hok m h⟩⟩,⟨fun o ho=>by simp [gG,fZ] at ho,by simp [gG,fZ],by simp [gG,fZ],by simp [gG,fZ];exact hf.1,hf,by simp [gG,fZ],by simp [gG,fZ],hI,by simp [gG,fZ]⟩,fun o ho=>by simp [gG,fZ] at ho,rfl,rfl,rfl,_,[],rfl,gc,Int.le_refl _,?_,fun c hc=>by cases hc⟩,?_⟩
 ·show (0:Int)<=_
  omega
 ·unfold cG
  show fuel-0<=_
  omega
theorem Cs {w:World} {base:Nat} {v:Value} {n:Nat} {xs:List Value} (ho:w.ownsRow base 2 1 v n xs) {b:Nat} {cs:Array Value} (hb:w.heap[b]?=some (.cells cs 28 (0,0))) (v0 v1 v2 v3 v4 v5:Value) :
  ((((((w.setCell ⟨b,0,none⟩ v0).setCell ⟨b,1,none⟩ v1).setCell ⟨b,2,none⟩ v2).setCell ⟨b,3,none⟩ v3).setCell ⟨b,4,none⟩ v4).setCell ⟨b,5,none⟩ v5).ownsRow base 2 1 v n xs:=by
 have h0:=ay (i:=0) hb v0
 have h1:=ay (i:=1) h0 v1
 have h2:=ay (i:=2) h1 v2
 have h3:=ay (i:=3) h2 v3
 have h4:=ay (i:=4) h3 v4
 exact cW (cW (cW (cW (cW (cW ho hb (by decide) _) h0 (by decide) _) h1 (by decide) _) h2 (by decide) _) h3 (by decide) _) h4 (by decide) _
section
variable {s:Nat} {Z:Nat->Prop} {wx w0 w:World} {g:Mg} {h:Hp} {L:List Kl}
theorem RR.z (H:RR s Z wx w0 g w h L) {b:Nat} (hb:Z b):w.heap[b]?=wx.heap[b]?:=by
 obtain ⟨vc,vo,vx,-,-,-,-,K⟩:=H
 exact (K.blk b hb).2
theorem RR.bl0 (H:RR s Z wx w0 g w h L):Bl w0 w:=by
 obtain ⟨vc,vo,vx,R,-⟩:=H
 exact R.bl
end
theorem Jw (f:Fi) (input:List Int) (fuel:Int) (w0 w:World) (g:Mg) (Z:Nat->Prop) (hb:Bl w0 w) (h1:w0.heap.size<=g.r) (h2:w0.heap.size<=g.hb) (h3:w0.heap.size<=g.mp) (hr:w.heap[g.r]?=some (.cells (gP g (fZ f input fuel) (.slice none 0 0) (.slice none 0 0)) 90 (0,0))) (hh:w.heap[g.hb]?=some (.cells (fA g (fZ f input fuel) (.slice none 0 0)) 171 (0,0))) (hm:w.ownsMap Tryz.prog 265 fg g.mp 0 (.map [])) (hz:∀b,Z b->b≠g.r/\b≠g.hb/\b≠g.mp) (hzl:∀b,Z b->b<w.heap.size):RR 0 Z w w0 g w (fZ f input fuel) []:=by
 obtain ⟨vc,vo,vx,R,K,-⟩:=Hy f input fuel w0 w g hb h1 h2 h3 hr hh hm
 have e1:=R.run.symm.trans hr
 have e2:=R.hp.symm.trans hh
 unfold gP at e1
 unfold fA at e2
 simp only [Option.some.injEq,Obj.cells.injEq,Array.mk.injEq,List.cons.injEq,true_and,and_true] at e1 e2
 obtain ⟨rfl,rfl⟩:=e1
 subst e2
 exact ⟨_,_,_,R,K,fun b hb=>⟨(hz b hb).1,(hz b hb).2.1,(hz b hb).2.2,(fun e=>by cases e),(fun e=>by cases e),(fun e=>by cases e)⟩,(fun b _ k hk=>by cases hk),Nat.le_refl _,fun b hb=>⟨hzl b hb,rfl⟩⟩
def sH (w:World) (s:Sh) (e:Ending) (w':World):Prop :=
 ∃vx,e=.returned (.tuple #[.agg #[ι s.fin,ι s.value,ι s.cls,vx,ι s.used,ι s.steps],ι 0])/\w'.ownsRow w.heap.size 2 1 vx s.o.length (s.o.map (Value.int .i64))/\Bl w w'
def Jy (w0 w:World) (s:Sh) (e:Ending) (w':World):Prop :=
 ∃vx,e=.returned (.agg #[ι s.fin,ι s.value,ι s.cls,vx,ι s.used,ι s.steps])/\w'.ownsRow w0.heap.size 2 1 vx s.o.length (s.o.map (Value.int .i64))/\Bl w w'
theorem EU (f:Fi) (inp:List Int) (Z:Nat->Prop) (wx w0:World) (g:Mg) (o:Mo) (L:List Kl) (w:World) (H:RR 0 Z wx w0 g w o.h L) (ed:Ed f inp o) (F:Fix w0 g o.h) :
  χ 47 #[π g.r 0,.agg #[ι o.how,ι (im o.v).kind,ι (im o.v).n]] w fun e w'=>Jy w0 w (oU o) e w':=by
 obtain ⟨vc,vo,vx,R,-⟩:=H
 obtain ⟨r0,-,-,-,-,-,r6,r7,r8⟩:=R.runCells
 obtain ⟨Ax,cx,rfl,-,-⟩:=jg R.o
 have hrow:∀w',Bl w w'->w'.ownsRow w0.heap.size 2 1 (.slice Ax o.h.sh.o.length cx) o.h.sh.o.length (o.h.sh.o.map (Value.int .i64)):=fun w' hb=>(R.kept (df hb none) (fun b e=>by cases e)).o
 by_cases h2:o.how=2
 ·obtain ⟨k3,n0,n1⟩:=ed.thr h2
  obtain ⟨n,hn⟩:∃n:Nat,o.v.n=n:=⟨o.v.n.toNat,by omega⟩
  have VC:oU o=⟨2,0,(o.h.obj o.v.n).cls,o.h.sh.o,o.h.sh.used,o.h.sh.steps⟩:=by unfold oU;rw [if_pos h2]
  have hc:=DY n (o.h.obj o.v.n).cls g o.h Ax o.h.sh.o.length cx w (R.rd F ed.len) (by omega) (by unfold Hp.obj;rw [hn,Int.toNat_natCast]) r0 r6 r7 r8
  rw [gp k3,h2,hn]
  rw [VC]
  refine hc.mono ?_
  rintro e w' ⟨rfl,hb⟩
  exact ⟨_,rfl,hrow w' hb,hb⟩
 ·have VC:oU o=⟨o.how,if o.v.kind=3 then 0 else o.v.n,0,o.h.sh.o,o.h.sh.used,o.h.sh.steps⟩:=by unfold oU;rw [if_neg h2]
  rw [VC]
  by_cases k3:o.v.kind=3
  ·rw [if_pos k3]
   refine (DX o.how (im o.v).kind (im o.v).n g o.h Ax o.h.sh.o.length cx w r0 r6 r7 r8 h2 k3).mono ?_
   rintro e w' ⟨rfl,hb⟩
   exact ⟨_,rfl,hrow w' hb,hb⟩
  ·rw [if_neg k3]
   have hc:=DW o.how (im o.v).kind (im o.v).n g o.h Ax o.h.sh.o.length cx w r0 r6 r7 r8 h2 k3
   have e:(im o.v).n=o.v.n:=by rw [iD k3]
   refine hc.mono ?_
   rintro e' w' ⟨rfl,hb⟩
   exact ⟨_,by rw [e],hrow w' hb,hb⟩
theorem A7 (f:Fi) (n:Nat) (args input:List Int) (fuel:Int) (w:World) (dL:bJ f=true) (hn:n<f.methods.length) (hr:mr (nth bT f.methods n).params=false) (Z:Nat->Prop) (V:World) (g:Mg) (hM:cz w g.M f.methods) (w4:World) (b cap:Nat) (H:RR 0 Z V w g w4 (fZ f input fuel) []) (B:cu w4 b (lI (nth bT f.methods n).params args (nth bT f.methods n).params.length)) :
  χ 45 #[π g.r 0,ι (n:Int),.slice (some ⟨b,0,none⟩) (nth bT f.methods n).params.length cap] w4 fun e w'=>e=.returned (.tuple #[])/\∃k2:Kl,k2.c=cv (nth bT f.methods n) (lI (nth bT f.methods n).params args (nth bT f.methods n).params.length)/\RR 0 Z V w g w' (gG f input fuel) [k2]:=by
 obtain ⟨m1,m2,m3⟩:=wv dL
 obtain ⟨p1,p2,p3,p5,p6,p7,p8,p9,N0,PN⟩:=j6 (m3 _ (bE (d:=bT) hn))
 have hk:=qA hr
 have s12:=ix (fZ f input fuel) f.classes.length _ _ (du (nth bT f.methods n).params args (nth bT f.methods n).params.length) (pj hk) p9
 have hc:=Ck 0 Z V w g (fZ f input fuel) [] w4 H n (nth bT f.methods n) (nth bT f.methods n).regs.toNat b cap (lI (nth bT f.methods n).params args (nth bT f.methods n).params.length) (by decide) hn rfl hM (by omega) (by omega) (by rw [Pw hk];exact B) (by omega) s12.2
 rw [du] at hc
 refine hc.mono ?_
 rintro e w' ⟨rfl,k2,nI,H2⟩
 exact ⟨rfl,k2,nI,H2.heap 1 (-1)⟩
section
variable (f:Fi) (A B R I:Option Addr) (a b rc ic:Nat)
theorem yA (entry fuel:Int) (args input:List Int) (w:World) (hB:cz w B f.methods) (hI:input.length<=maxLen) (hR:args.length<=maxLen) (hM:∀w',Bl w w'->χ 30 #[sa f.classes.length f.methods.length A B a b] w' fun e w2=>e=.returned (.bool (bJ f))/\Bl w' w2) (hE:lR (bJ f) f.methods entry fuel args.length input.length≠0) :
  χ 18 #[r9,sa f.classes.length f.methods.length A B a b,ι entry,.slice R args.length rc,.slice I input.length ic,ι fuel] w fun e w'=>e=.returned (.tuple #[.agg #[ι 0,ι 0,ι 0,.slice none 0 0,ι 0,ι 0],ι (lR (bJ f) f.methods entry fuel args.length input.length)])/\Bl w w':=by
 have bM:Θ (Bl w (((w.alloc lS).alloc (o7 f.classes.length f.methods.length A B a b)).alloc iJ)):=(((Bl.refl w).alloc _).alloc _).alloc _
 have Py:Θ (∀w',Bl w w'->χ 43 #[r9,sa f.classes.length f.methods.length A B a b,ι entry,.slice R args.length rc,.slice I input.length ic,ι fuel] w' fun e w2=>e=.returned (ι (lR (bJ f) f.methods entry fuel args.length input.length))/\Bl w' w2) :=
  fun w' hb=>pM (bJ f) f.classes.length f.methods A B R I a b rc ic args.length input.length entry fuel w' (hB.bl hb) hR hI (fun w2 dQ=>hM w2 (hb.trans dQ))
 have hz:(lR (bJ f) f.methods entry fuel args.length input.length !=0)=true:=by simpa using hE
 have wZ:Θ ((((w.alloc lS).alloc (o7 f.classes.length f.methods.length A B a b)).alloc iJ).heap[w.heap.size+1+1]?=some (.cells #[ι 0,ι 0,ι 0,.slice none 0 0,ι 0,ι 0] 28 (0,0))):=by
  have:=aB ((w.alloc lS).alloc (o7 f.classes.length f.methods.length A B a b)) #[ι 0,ι 0,ι 0,.slice none 0 0,ι 0,ι 0] 28
  rw [World.size_alloc,World.size_alloc] at this
  exact this
 clear hB hI hR hM hE
 generalize lR (bJ f) f.methods entry fuel args.length input.length=E at *
 go_enter func18,ntmps18
 go_wp2_with (go_at_call 43;refine (Py.o _ bM.o).mono ?_;rintro e w1 ⟨rfl,b1⟩;have q1:=ax b1 wZ.o;have z0:w1.cell? ⟨w.heap.size+1+1,0,none⟩=some (ι 0):=(ab q1).trans rfl;have z1:w1.cell? ⟨w.heap.size+1+1,1,none⟩=some (ι 0):=(ab q1).trans rfl;have z2:w1.cell? ⟨w.heap.size+1+1,2,none⟩=some (ι 0):=(ab q1).trans rfl;have z3:w1.cell? ⟨w.heap.size+1+1,3,none⟩=some (.slice none 0 0):=(ab q1).trans rfl;have z4:w1.cell? ⟨w.heap.size+1+1,4,none⟩=some (ι 0):=(ab q1).trans rfl;have z5:w1.cell? ⟨w.heap.size+1+1,5,none⟩=some (ι 0):=(ab q1).trans rfl;have fr:=aA q1;replace q1:=ae q1;have B1:=ae b1;clear b1)
 refine bodyPost_ret (dj rfl _ _ (w.heap.size+1+1) _ _ (ι E) _ _ rfl rfl (jq q1.o _ _ _ _ _ _) underlying28 rfl jr) rfl ?_
 exact ⟨rfl,kN (bM.o.trans B1.o) (by omega) _ _ _ _ _ _⟩
theorem A8 (n:Nat) (fuel:Int) (args input:List Int) (w:World) (hA:bK w A f.classes) (hB:cz w B f.methods) (hI:aU w I input) (hR:aU w R args) (hM:∀w',Bl w w'->χ 30 #[sa f.classes.length f.methods.length A B a b] w' fun e w2=>e=.returned (.bool (bJ f))/\Bl w' w2) (hE:lR (bJ f) f.methods (n:Int) fuel args.length input.length=0) :
  χ 18 #[r9,sa f.classes.length f.methods.length A B a b,ι (n:Int),.slice R args.length rc,.slice I input.length ic,ι fuel] w fun e w'=>sH w (oU (runM fuel.toNat (gG f input fuel) [cv (nth bT f.methods n) (lI (nth bT f.methods n).params args (nth bT f.methods n).params.length)])) e w':=by
 have bM:Θ (Bl w (((w.alloc lS).alloc (o7 f.classes.length f.methods.length A B a b)).alloc iJ)):=(((Bl.refl w).alloc _).alloc _).alloc _
 have Py:Θ (∀w',Bl w w'->χ 43 #[r9,sa f.classes.length f.methods.length A B a b,ι (n:Int),.slice R args.length rc,.slice I input.length ic,ι fuel] w' fun e w2=>e=.returned (ι 0)/\Bl w' w2):=fun w' hb=>by
  have:=pM (bJ f) f.classes.length f.methods A B R I a b rc ic args.length input.length (n:Int) fuel w' (hB.bl hb) hR.1 hI.1 (fun w2 dQ=>hM w2 (hb.trans dQ))
  rw [hE] at this
  exact this
 obtain ⟨e1,e2,e3,e4,e5,e6⟩:=wq hE
 rw [Int.toNat_natCast] at e5 e6
 have hn:n<f.methods.length:=by omega
 obtain ⟨m1,m2,m3⟩:=wv e1
 obtain ⟨p1,p2,p3,p5,p6,p7,p8,p9,N0,PN⟩:=j6 (m3 _ (bE (d:=bT) hn))
 have hkk:=qA e5
 have Tc:=ae hB
 have iL:=hB.1
 unfold maxLen at iL
 rcases hB.2 with z0|⟨mb,mo,rfl,hcell⟩
 ·omega
 obtain ⟨P,C,J,p,c,k,q0,-,-,-,-,-,-,-,hme⟩:=hcell n hn
 have RU:Θ (∀g:Mg,g.A=A->g.M=some ⟨mb,mo,none⟩->g.I=I->∀h:Hp,h.file=f->h.input=input->Fix w g h):=fun g ga gm gi h hf hi=>⟨by rw [ga,hf];exact hA,by rw [gm,hf];exact hB,by rw [gi,hi];exact hI,by rw [hf];exact m1⟩
 have VD:Θ (∀w',Bl w w'->χ 46 #[.slice P (nth bT f.methods n).params.length p,.slice R args.length rc] w' fun e w2=>e=.returned (.slice (some ⟨w'.heap.size,0,none⟩) (nth bT f.methods n).params.length (nth bT f.methods n).params.length)/\cu w2 w'.heap.size (lI (nth bT f.methods n).params args (nth bT f.methods n).params.length)/\Bl w' w2) :=
  fun w' hb=>y9 P R p n rc (nth bT f.methods n).params args w' (hme.1.bl hb) (hR.bl hb) e6 p5 (fun q hq=>by
   have h1:=p9 _ (bE (d:=bS) hq)
   have h2:=hkk q hq
   unfold fP at h1
   simp at h1
   omega)
 have RV:Θ (∀(Z:Nat->Prop) (V:World) (g:Mg) (gm:g.M=some ⟨mb,mo,none⟩) (w4:World) (b cap:Nat) (H:RR 0 Z V w g w4 (fZ f input fuel) []) (B:cu w4 b (lI (nth bT f.methods n).params args (nth bT f.methods n).params.length)),
   χ 45 #[π g.r 0,ι (n:Int),.slice (some ⟨b,0,none⟩) (nth bT f.methods n).params.length cap] w4 fun e w'=>e=.returned (.tuple #[])/\∃k2:Kl,k2.c=cv (nth bT f.methods n) (lI (nth bT f.methods n).params args (nth bT f.methods n).params.length)/\RR 0 Z V w g w' (gG f input fuel) [k2]) :=
  fun Z V g gm w4 b cap H Bx=>A7 f n args input fuel w e1 hn e5 Z V g (by rw [gm];exact hB) w4 b cap H Bx
 have VE:=Jv f input args fuel n e1 (yX hB) (qe hI) (qe hR) e3 hn e5 e6
 have ED:=(Gz fuel.toNat _ _ VE.1).1
 have VF:Θ (∀(Z:Nat->Prop) (V:World) (g:Mg) (ga:g.A=A) (gm:g.M=some ⟨mb,mo,none⟩) (gi:g.I=I) (k2:Kl) (w5:World) (nI:k2.c=cv (nth bT f.methods n) (lI (nth bT f.methods n).params args (nth bT f.methods n).params.length)) (H:RR 0 Z V w g w5 (gG f input fuel) [k2]),
   χ 48 #[π g.r 0] w5 fun e w'=>RP Z V w g (runM fuel.toNat (gG f input fuel) [cv (nth bT f.methods n) (lI (nth bT f.methods n).params args (nth bT f.methods n).params.length)]) e w'):=fun Z V g ga gm gi k2 w5 nI H=>by
  have h0:=until_any (VB f input) Z V w g fuel.toNat (gG f input fuel) [k2] w5 H (by simp only [List.map_cons,List.map_nil,nI];exact VE) (Ms f input w g m2.2 (by omega) (fun h hf hi=>RU.o g ga gm gi h hf hi))
  simp only [List.map_cons,List.map_nil,nI] at h0
  exact h0
 generalize runM fuel.toNat (gG f input fuel) [cv (nth bT f.methods n) (lI (nth bT f.methods n).params args (nth bT f.methods n).params.length)]=o at *
 have QN:Θ (∀(Z:Nat->Prop) (V:World) (g:Mg) (ga:g.A=A) (gm:g.M=some ⟨mb,mo,none⟩) (gi:g.I=I) (L:List Kl) (w6:World) (H:RR 0 Z V w g w6 o.h L),
   χ 47 #[π g.r 0,.agg #[ι o.how,ι (im o.v).kind,ι (im o.v).n]] w6 fun e w'=>Jy w w6 (oU o) e w') :=
  fun Z V g ga gm gi L w6 H=>EU f input Z V w g o L w6 H ED (RU.o g ga gm gi o.h ED.file ED.input)
 obtain ⟨s,hs⟩:∃s,oU o=s:=⟨_,rfl⟩
 rw [hs] at QN ⊢
 have n0:(0:Int)<=(n:Int):=by omega
 have n1:(n:Int)<(f.methods.length:Int):=by omega
 obtain ⟨L0,L1⟩:=bc w #[.func (.func 30) #[] #[],.func (.func 31) #[] #[]] #[.slice A f.classes.length a,.slice (some ⟨mb,mo,none⟩) f.methods.length b] 40 25
 have dK:Θ (_):=ax ((Bl.refl ((w.alloc lS).alloc (o7 f.classes.length f.methods.length A (some ⟨mb,mo,none⟩) a b))).alloc iJ) L0
 have ey:Θ (_):=ax ((Bl.refl ((w.alloc lS).alloc (o7 f.classes.length f.methods.length A (some ⟨mb,mo,none⟩) a b))).alloc iJ) L1
 have wZ:Θ ((((w.alloc lS).alloc (o7 f.classes.length f.methods.length A (some ⟨mb,mo,none⟩) a b)).alloc iJ).heap[w.heap.size+1+1]?=some (.cells #[ι 0,ι 0,ι 0,.slice none 0 0,ι 0,ι 0] 28 (0,0))):=by
  have:=aB ((w.alloc lS).alloc (o7 f.classes.length f.methods.length A (some ⟨mb,mo,none⟩) a b)) #[ι 0,ι 0,ι 0,.slice none 0 0,ι 0,ι 0] 28
  rw [World.size_alloc,World.size_alloc] at this
  exact this
 clear hA hB hI hR hM hE e1 e2 e3 e4 e5 e6 m1 m2 m3 p1 p2 p3 p5 p6 p7 p8 p9 N0 PN hkk hcell hme VE ED hs Tc L0 L1 hn
 go_enter func18,ntmps18
 go_wp2_with (go_at_call 43;refine (Py.o _ bM.o).mono ?_;rintro e w1 ⟨rfl,b1⟩;have B1:=ae b1;have y0:=ax b1 dK.o;have y1:=ax b1 ey.o;have Ti:Θ (∀w',Bl w1 w'->(fun w'=>Θ (Bl w1 w')/\w'.cell? ⟨w.heap.size+1,0,none⟩=some (.slice A f.classes.length a)/\w'.cell? ⟨w.heap.size+1,1,none⟩=some (.slice (some ⟨mb,mo,none⟩) f.methods.length b)/\w'.cell? ⟨w.heap.size,1,none⟩=some (.func (.func 31) #[] #[])) w'):=(fun w' hb=>⟨hb,(ab (ax hb y1)).trans rfl,(ab (ax hb y1)).trans rfl,(ab (ax hb y0)).trans rfl⟩);have Ct:=(Ti.o w1 (Bl.refl w1)).2.2.1;clear b1 y0 y1)
 refine wp_region_held_drew (S:=fun w'=>Θ (Bl w1 w')/\κ w' (w.heap.size+1) 0 (.slice A f.classes.length a)/\κ w' (w.heap.size+1) 1 (.slice (some ⟨mb,mo,none⟩) f.methods.length b)/\κ w' w.heap.size 1 (.func (.func 31) #[] #[])) (by kernel_rfl) ?_ (fun aa=>?_)
 ·exact Ti.o _ (Bl.refl _).drew
 iterate 8 (refine tn rfl (by kernel_rfl) (fun _ _ _ h=>h) (by intro _ h;go_split_ands;go_simp<;>with_reducible rfl) aa ?_;try simp only [aZ])
 refine aY (i:=2) (by kernel_rfl) rfl fun K hK=>?_
 go_simp
 go_at_call 44
 refine (yd A f.classes.length a w1.drew).mono ?_
 rintro e w2 ⟨he,bX⟩
 have he':e=.returned (π (w1.heap.size+1) 0):=he
 clear he
 subst he'
 have Tj:Θ (w2=(w1.drew.alloc (.map #[] 0)).alloc (Nf A f.classes.length a w1.heap.size)):=bX
 have B2:Θ (Bl w1 w2):=by rw [Tj.o];exact ((Bl.refl w1).drew.alloc _).alloc _
 clear bX
 go_wp2_with fail
 refine hK.out _ _ (Ti.o _ B2.o) (fun ah=>?_)
 try simp only [aZ]
 refine tn rfl (by kernel_rfl) (fun _ _ _ h=>h) (by intro _ h;go_split_ands;go_simp<;>with_reducible rfl) ah ?_
 try simp only [aZ]
 refine aY (i:=10) (by kernel_rfl) rfl fun K hK=>?_
 go_simp
 refine hK.out _ _ (Ti.o _ (B2.o.alloc _)) (fun aH=>?_)
 try simp only [aZ]
 refine tn rfl (by kernel_rfl) (fun _ _ _ h=>h) (by intro _ h;go_split_ands;go_simp<;>with_reducible rfl) aH ?_
 try simp only [aZ]
 refine wpAnyH_done (by kernel_rfl) ?_ _
 have tt:w2.heap.size=w1.heap.size+2:=by rw [Tj.o];simp
 obtain ⟨V,hV⟩:∃V,V=w2.alloc (.cells #[π (w1.heap.size+1) 0,.slice (some ⟨mb,mo,none⟩) f.methods.length b,.func (.func 31) #[] #[],.slice none 0 0,.slice I input.length ic,ι fuel,ι 0,ι 0,.slice none 0 0] 90):=⟨_,rfl⟩
 have HV:Θ (Bl w1 V):=by rw [hV];exact B2.o.alloc _
 have ez:Θ (RR 0 (fun b=>b<w1.heap.size) V w ⟨w2.heap.size,w1.heap.size+1,w1.heap.size,A,a,some ⟨mb,mo,none⟩,b,I,ic⟩ V (fZ f input fuel) []):=by
  refine Jw f input fuel w V _ (fun b=>b<w1.heap.size) ((bM.o.trans B1.o).trans HV.o) ?_ ?_ ?_ ?_ ?_ ?_ ?_ ?_
  ·show w.heap.size<=w2.heap.size
   have:=bM.o.size;have:=B1.o.size;omega
  ·show w.heap.size<=w1.heap.size+1
   have:=bM.o.size;have:=B1.o.size;omega
  ·show w.heap.size<=w1.heap.size
   have:=bM.o.size;have:=B1.o.size;omega
  ·rw [hV];exact aB _ _ _
  ·rw [hV]
   refine ax ((Bl.refl w2).alloc _) ?_
   rw [Tj.o]
   have:=aB (w1.drew.alloc (.map #[] 0)) #[.slice A f.classes.length a,.slice none 0 0,.map (some w1.heap.size)] 171
   have e:(w1.drew.alloc (.map #[] 0)).heap.size=w1.heap.size+1:=by simp
   rw [e] at this
   exact this
  ·have hm:w2.ownsMap Tryz.prog 265 fg w1.heap.size 0 (.map []):=by rw [Tj.o];exact ownsMap_at rfl _
   rw [hV]
   exact hm.alloc _
  ·intro b hb
   show b≠w2.heap.size/\b≠w1.heap.size+1/\b≠w1.heap.size
   omega
  ·intro b hb
   have:=HV.o.size;omega
 have x1:V.cell? ⟨w.heap.size+1,1,none⟩=some (.slice (some ⟨mb,mo,none⟩) f.methods.length b):=HV.o.cell Ct
 have x2:V.cell? ⟨mb,mo+n*8,none⟩=some (.slice P (nth bT f.methods n).params.length p):=((bM.o.trans B1.o).trans HV.o).cell q0
 rw [<-hV]
 clear hV tt
 have HZ:Θ (∀w':World,(∀b':Nat,b'<w1.heap.size->w'.heap[b']?=V.heap[b']?)->w'.heap[w.heap.size+1+1]?=some (.cells #[ι 0,ι 0,ι 0,.slice none 0 0,ι 0,ι 0] 28 (0,0))):=fun w' hw'=>by
  have hlt:w.heap.size+1+1<w1.heap.size:=Nat.lt_of_lt_of_le (af wZ.o) B1.o.size
  rw [hw' _ hlt]
  exact ax (B1.o.trans HV.o) wZ.o
 clear aH aa ah Ct q0
 go_wp2_with (first
  | (go_at_call 46;refine (VD.o V ((bM.o.trans B1.o).trans HV.o)).mono ?_;rintro e w4 ⟨rfl,VG,b4⟩;replace VG:=ae VG;replace b4:=ae b4)
  | (go_at_call 45;refine (RV.o (fun b=>b<w1.heap.size) V ⟨w2.heap.size,w1.heap.size+1,w1.heap.size,A,a,some ⟨mb,mo,none⟩,b,I,ic⟩ rfl w4 _ _ (ez.o.bl b4.o) VG.o).mono ?_;rintro e w5 ⟨rfl,k2,nI,H5⟩;replace H5:=ae H5;replace nI:=ae nI)
  | (go_at_call 48;refine (VF.o (fun b=>b<w1.heap.size) V ⟨w2.heap.size,w1.heap.size+1,w1.heap.size,A,a,some ⟨mb,mo,none⟩,b,I,ic⟩ rfl rfl rfl k2 w5 nI.o H5.o).mono ?_;rintro e w6 ⟨rfl,L6,H6⟩;have Q6:=ae H6;clear H6)
  | (go_at_call 47;refine (QN.o (fun b=>b<w1.heap.size) V ⟨w2.heap.size,w1.heap.size+1,w1.heap.size,A,a,some ⟨mb,mo,none⟩,b,I,ic⟩ rfl rfl rfl L6 w6 Q6.o).mono ?_;rintro e w7 ⟨vx,rfl,ow,b7⟩;obtain ⟨Ax,cx,rfl,-,-⟩:=jg ow;have q7:=ax b7 (HZ.o w6 (fun b' zl=>(Q6.o.z (Z:=fun b=>b<w1.heap.size) zl)));have z0:w7.cell? ⟨w.heap.size+1+1,0,none⟩=some (ι 0):=(ab q7).trans rfl;have z1:w7.cell? ⟨w.heap.size+1+1,1,none⟩=some (ι 0):=(ab q7).trans rfl;have z2:w7.cell? ⟨w.heap.size+1+1,2,none⟩=some (ι 0):=(ab q7).trans rfl;have z3:w7.cell? ⟨w.heap.size+1+1,3,none⟩=some (.slice none 0 0):=(ab q7).trans rfl;have z4:w7.cell? ⟨w.heap.size+1+1,4,none⟩=some (ι 0):=(ab q7).trans rfl;have z5:w7.cell? ⟨w.heap.size+1+1,5,none⟩=some (ι 0):=(ab q7).trans rfl;have fr:=aA q7;replace q7:=ae q7;have OW:=ae ow;have B7:=ae b7;clear ow b7))
 refine bodyPost_ret (dj rfl _ _ (w.heap.size+1+1) _ _ (ι 0) _ _ rfl rfl (jq q7.o _ _ _ _ _ _) underlying28 rfl jr) rfl ?_
 exact ⟨_,rfl,Cs OW.o q7.o _ _ _ _ _ _,kN (Q6.o.bl0.trans B7.o) (by omega) _ _ _ _ _ _⟩
end
abbrev RY (f:Fi) (A B R I:Option Addr) (a b rc ic:Nat) (entry fuel:Int) (args input:List Int):Array Value:=#[sa f.classes.length f.methods.length A B a b,ι entry,.slice R args.length rc,.slice I input.length ic,ι fuel]
theorem Mv {w:World} {base mC:Nat} {e:TypeId} {size n:Nat} {v:Value} {xs:List Value} (h:w.ownsRow base e size v n xs) (hb:mC<=base):w.ownsRow mC e size v n xs:=by
 refine ⟨h.1,?_⟩
 rcases h.2 with h1|⟨gb,cap,cur,e1,h2,h3⟩
 ·exact Or.inl h1
 ·exact Or.inr ⟨gb,cap,cur,e1,Nat.le_trans hb h2,h3⟩
section
variable (f:Fi) (A B:Option Addr) (a b:Nat) (w:World)
theorem Jz:((w.alloc (o7 f.classes.length f.methods.length A B a b)).alloc iJ).heap[w.heap.size]?=some (.cells #[.slice A f.classes.length a,.slice B f.methods.length b] 25 (0,0))/\((w.alloc (o7 f.classes.length f.methods.length A B a b)).alloc iJ).heap[w.heap.size+1]?=some (.cells #[ι 0,ι 0,ι 0,.slice none 0 0,ι 0,ι 0] 28 (0,0)) :=
 bc w _ _ _ _
theorem yB:Bl w (((w.alloc (o7 f.classes.length f.methods.length A B a b)).alloc iJ).alloc lS)/\(((w.alloc (o7 f.classes.length f.methods.length A B a b)).alloc iJ).alloc lS).heap[w.heap.size+1]?=some (.cells #[ι 0,ι 0,ι 0,.slice none 0 0,ι 0,ι 0] 28 (0,0)) :=
 ⟨(((Bl.refl w).alloc _).alloc _).alloc _,ax ((Bl.refl _).alloc _) (Jz f A B a b w).2⟩
end
section
variable (f:Fi) (A B R I:Option Addr) (a b rc ic:Nat) (entry fuel:Int) (args input:List Int) (w:World)
theorem JA (E:Int) (hF:∀w',Bl w w'->χ 18 #[r9,sa f.classes.length f.methods.length A B a b,ι entry,.slice R args.length rc,.slice I input.length ic,ι fuel] w' fun e w2=>e=.returned (.tuple #[.agg #[ι 0,ι 0,ι 0,.slice none 0 0,ι 0,ι 0],ι E])/\Bl w' w2) :
  χ 13 (RY f A B R I a b rc ic entry fuel args input) w fun e w'=>e=.returned (.tuple #[.agg #[ι 0,ι 0,ι 0,.slice none 0 0,ι 0,ι 0],ι E])/\Bl w w':=by
 have HF:=ae hF
 have HL:=ae (yB f A B a b w)
 clear hF
 go_enter func13,ntmps13
 go_wp2_with (go_at_call 18;refine (HF.o _ HL.o.1).mono ?_;rintro e w1 ⟨rfl,b1⟩;have q1:=ax b1 HL.o.2;have z0:w1.cell? ⟨w.heap.size+1,0,none⟩=some (ι 0):=(ab q1).trans rfl;have z1:w1.cell? ⟨w.heap.size+1,1,none⟩=some (ι 0):=(ab q1).trans rfl;have z2:w1.cell? ⟨w.heap.size+1,2,none⟩=some (ι 0):=(ab q1).trans rfl;have z3:w1.cell? ⟨w.heap.size+1,3,none⟩=some (.slice none 0 0):=(ab q1).trans rfl;have z4:w1.cell? ⟨w.heap.size+1,4,none⟩=some (ι 0):=(ab q1).trans rfl;have z5:w1.cell? ⟨w.heap.size+1,5,none⟩=some (ι 0):=(ab q1).trans rfl;have fr:=aA q1;replace q1:=ae q1;have B1:=ae b1;clear b1)
 refine bodyPost_ret (dj rfl _ _ (w.heap.size+1) _ _ (ι E) _ _ rfl rfl (jq q1.o _ _ _ _ _ _) underlying28 rfl jr) rfl ?_
 exact ⟨rfl,kN (HL.o.1.trans B1.o) (Nat.le_succ _) _ _ _ _ _ _⟩
theorem Mw (s:Sh) (hF:∀w',Bl w w'->χ 18 #[r9,sa f.classes.length f.methods.length A B a b,ι entry,.slice R args.length rc,.slice I input.length ic,ι fuel] w' fun e w2=>sH w' s e w2) :
  χ 13 (RY f A B R I a b rc ic entry fuel args input) w fun e w'=>sH w s e w':=by
 have HF:=ae hF
 have HL:=ae (yB f A B a b w)
 clear hF
 go_enter func13,ntmps13
 go_wp2_with (go_at_call 18;refine (HF.o _ HL.o.1).mono ?_;rintro e w1 ⟨vx,rfl,ow,b1⟩;obtain ⟨Ax,cx,rfl,-,-⟩:=jg ow;have q1:=ax b1 HL.o.2;have z0:w1.cell? ⟨w.heap.size+1,0,none⟩=some (ι 0):=(ab q1).trans rfl;have z1:w1.cell? ⟨w.heap.size+1,1,none⟩=some (ι 0):=(ab q1).trans rfl;have z2:w1.cell? ⟨w.heap.size+1,2,none⟩=some (ι 0):=(ab q1).trans rfl;have z3:w1.cell? ⟨w.heap.size+1,3,none⟩=some (.slice none 0 0):=(ab q1).trans rfl;have z4:w1.cell? ⟨w.heap.size+1,4,none⟩=some (ι 0):=(ab q1).trans rfl;have z5:w1.cell? ⟨w.heap.size+1,5,none⟩=some (ι 0):=(ab q1).trans rfl;have fr:=aA q1;replace q1:=ae q1;have B1:=ae b1;have OW:=ae ow;clear b1 ow)
 refine bodyPost_ret (dj rfl _ _ (w.heap.size+1) _ _ (ι 0) _ _ rfl rfl (jq q1.o _ _ _ _ _ _) underlying28 rfl jr) rfl ?_
 exact ⟨_,rfl,Cs (Mv OW.o (HL.o.1.size)) q1.o _ _ _ _ _ _,kN (HL.o.1.trans B1.o) (Nat.le_succ _) _ _ _ _ _ _⟩
end
end Go.Proofs.YtgiiapenmjollaaGreat
