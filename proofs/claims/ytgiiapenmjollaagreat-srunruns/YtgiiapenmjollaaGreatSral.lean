import Derived.Test.YtgiiapenmjollaaGreatSrab
import Derived.Test.YtgiiapenmjollaaGreatSrak
import Derived.Deep.RegionWith
import Derived.Deep.Upon
import Derived.Deep.RegionHeld3
namespace Go.Proofs.YtgiiapenmjollaaGreat
set_option linter.all false
set_option maxHeartbeats 40000000
set_option maxRecDepth 100000
open Go.RowKit
open Go.Value (int)
open Go.IntKind (i64)
theorem wQ {h:Hp} {r:Va} {c f:Int} (yH:r.kind=3->r.n<h.objs.length) (hp:¬h.findN r c f<0) :
  h.findH r c=h/\r.kind=3/\∃n q:Nat,r.n=n/\n<h.objs.length/\h.findN r c f=q/\q<(nth cB h.objs n).held.length:=by
 unfold Hp.findN at hp
 by_cases hm:h.mustB (h.of r ⟨3,c⟩)=true
 ·rw [if_pos hm] at hp
  by_cases hn:r.n<0
  ·rw [if_pos hn] at hp;omega
  ·rw [if_neg hn] at hp
   have hk:=mF (dX hm).1
   have hl:=yH hk
   rcases r9 (h.obj r.n).held c f with h1|⟨q,hq,h1⟩
   ·rw [h1] at hp;omega
   ·refine ⟨by unfold Hp.findH;rw [if_pos hm,if_neg hn],hk,r.n.toNat,q,by omega,by omega,by unfold Hp.findN;rw [if_pos hm,if_neg hn];exact h1,hq⟩
 ·rw [if_neg hm] at hp;omega
theorem iT (w:World) (v u:Va):aP ((w.alloc (cT v)).alloc (cT u)) w.heap.size v/\aP ((w.alloc (cT v)).alloc (cT u)) (w.heap.size+1) u:=by
 have h1:(w.alloc (cT v)).heap.size=w.heap.size+1:=World.size_alloc ..
 refine ⟨⟨?_⟩,⟨?_⟩⟩
 ·rw [Below.heap_alloc _ _ _ (by omega)];exact aD _ _ _
 ·rw [<-h1];exact aD _ _ _
theorem I3 (w0:World) (g:Ad) (p:Nat) (h:Hp) (r:Va) (c f:Int) (w:World) (hH:Hs w0 g w p h) (C:Cw w0 g h) (yH:r.kind=3->r.n<h.objs.length) :
  Calls Tryz.prog 162 #[.pointer (some ⟨p,0,none⟩),iE r,int i64 c,int i64 f] w fun e w'=>e=.returned (iE (h.getV r c f))/\Hs w0 g w' p (h.findH r c)/\Fr w0.heap.size g.T w w':=by
 have cI:=hH.base
 have HF:Hid (Fr w0.heap.size g.T w ((w.alloc (cT r)).alloc iy)):=((Fr.refl _ _ w).alloc cI _).alloc (by simp;omega) _
 have HH:Hid (Hs w0 g ((w.alloc (cT r)).alloc iy) p h):=hH.cf (((Cf.refl _ _ w).alloc cI _).alloc (by simp;omega) _)
 have HV:Hid (aP ((w.alloc (cT r)).alloc iy) w.heap.size r):=(iT w r ag).1
 have HR:Hid (aP ((w.alloc (cT r)).alloc iy) (w.heap.size+1) ag):=(iT w r ag).2
 have HC:Hid (Cw w0 g h):=C
 have xY:Hid (r.kind=3->r.n<h.objs.length):=yH
 clear hH C
 have ez:w0.heap.size<=w.heap.size+1:=by omega
 have gz:w.heap.size<=w.heap.size+1:=by omega
 by_cases oa:h.findN r c f<0
 ·have e1:h.getV r c f=ag:=by unfold Hp.getV;rw [if_pos oa]
  rw [e1]
  clear e1 yH
  obtain ⟨N,hN⟩:∃N,h.findN r c f=N:=⟨_,rfl⟩
  rw [hN] at oa
  go_enter Tryz.func162,Tryz.ntmps162
  go_wp2_with (go_at_call 158;refine (nO w0 g p h r c f _ HH.out HC.out xY.out).mono ?_;rintro e w1 ⟨he,h1,f1⟩;rw [hN] at he;subst he;have b1:=HR.out.keep HC.out.k f1;have r0:=b1.c0;have r1:=b1.c1;have r2:=b1.fr 0;have r3:=b1.fr 1;have kW:Hid (aP w1 (w.heap.size+1) ag):=b1;clear b1)
  (try simp only [Exit.inBlock,Exit.then])
  refine bodyPost_ret (results_cell_row rfl _ _ (w.heap.size+1) _ _ _ _ rfl (kW.out.set ag).blk Tryz.underlying62 rfl bp) rfl ?_
  exact ⟨rfl,h1.cf (kW.out.cf HC.out.k ez _ _),(((HF.out.trans f1).new gz ez _).new gz ez _)⟩
 ·obtain ⟨e2,hk,n,q,NM,kx,Ms,eR⟩:=wQ yH oa
  have e1:h.getV r c f=(nth cH (nth cB h.objs n).held q).v:=by unfold Hp.getV Hp.obj;rw [if_neg oa,Ms,NM];rfl
  rw [e1,e2]
  have Md:Hid (h.findH r c=h):=e2
  have EG:Hid (h.findN r c f=q):=Ms
  obtain ⟨rk,rn⟩:=r
  dsimp only at *
  subst NM
  clear e1 e2 Ms oa yH hk
  have kv:(0:Int)<=(n:Int):=by omega
  have kg:(n:Int)<(h.objs.length:Int):=by omega
  have cV:(0:Int)<=(q:Int):=by omega
  have mN:(q:Int)<((nth cB h.objs n).held.length:Int):=by omega
  go_enter Tryz.func162,Tryz.ntmps162
  go_wp2_with (go_at_call 158;refine (nO w0 g p h ⟨rk,n⟩ c f _ HH.out HC.out xY.out).mono ?_;rintro e w1 ⟨he,h1,f1⟩;rw [EG.out] at he;subst he;rw [Md.out] at h1;have b1:=HR.out.keep HC.out.k f1;have r0:=b1.c0;have r1:=b1.c1;have r2:=b1.fr 0;have r3:=b1.fr 1;have kW:Hid (aP w1 (w.heap.size+1) ag):=b1;clear b1;have x1:=(HV.out.keep HC.out.k f1).c1;obtain ⟨vo,vx,hv,H⟩:=h1;have HA:Hid (cD w0 g w1 p h vo vx hv):=H;obtain ⟨gb,cap,U,uc,mY,yE,o1,o2,hu,OE,wP⟩:=mO H kx;have c2:=H.cells.c2;rw [mY] at c2;clear H mY hu;unfold maxLen at yE OE)
  rcases wP with h0|⟨hb,rfl,-,hcell⟩
  ·omega
  obtain ⟨-,-,y2,y3⟩:=hcell q eR
  clear hcell o1
  go_region
  all_goals go_wp2
  all_goals
   (try simp only [Exit.inBlock,Exit.then])
   refine bodyPost_ret (results_cell_row rfl _ _ (w.heap.size+1) _ _ _ _ rfl (kW.out.set (nth cH (nth cB h.objs n).held q).v).blk Tryz.underlying62 rfl bp) rfl ?_
   exact ⟨rfl,⟨vo,vx,hv,HA.out.cf ((kW.out.cf HC.out.k ez _ _).drew)⟩,(((HF.out.trans f1).new gz ez _).new gz ez _).drew⟩
theorem o6:∀(l:List pB) (q:Nat) (v:Va),q<l.length->cS (l.set q { nth cH l q with v:=v })=((cS l).set (q*4+2) (int i64 v.kind)).set (q*4+3) (int i64 v.n)
 | [],q,v,h=>by simp at h
 | x::l,0,v,_=>by simp [cS,nth]
 | x::l,q+1,v,h=>by
  have:=o6 l q v (by simpa using h)
  have e2:(q+1)*4+2=q*4+2+1+1+1+1:=by omega
  have e3:(q+1)*4+3=q*4+3+1+1+1+1:=by omega
  have en:nth cH (x::l) (q+1)=nth cH l q:=by simp [nth]
  rw [e2,e3,en]
  simp [cS,this]
theorem o7:∀(l:List Ob) (hv:List Value) (n:Nat) (o:Ob),o.cls=(nth cB l n).cls->dw (l.set n o) hv=dw l hv
 | [],hv,n,o,_=>by simp
 | x::l,[],n,o,_=>by cases n<;>simp [dw]
 | x::l,v::hv,0,o,h=>by simp [nth] at h;simp [dw,h]
 | x::l,v::hv,n+1,o,h=>by
  have en:nth cB (x::l) (n+1)=nth cB l n:=by simp [nth]
  rw [en] at h
  simp [dw,o7 l hv n o h]
theorem sC {w:World} {base:Nat} {e:TypeId} {size n:Nat} {v:Value} {xs:List Value} (ho:w.ownsRow base e size v n xs) {b i:Nat} (hb:v.ownBlock≠some b) (u:Value):(w.setCell ⟨b,i,none⟩ u).ownsRow base e size v n xs:=by
 refine ⟨ho.1,?_⟩
 rcases ho.2 with h0|⟨gb,cap,cur,h1,h2,h3,h4⟩
 ·exact Or.inl h0
 ·refine Or.inr ⟨gb,cap,cur,h1,h2,?_,h4⟩
  rw [aA]
  ·exact h3
  ·rintro rfl;apply hb;rw [h1];rfl
theorem cD.heldSet {w0 w:World} {g:Ad} {p:Nat} {h:Hp} {vo vx:Value} {hv:List Value} (H:cD w0 g w p h vo vx hv) (k:Tk g.T) {n q hb uc:Nat} (hn:n<h.objs.length) (hq:q<(nth cB h.objs n).held.length)
  (hu:nth hv0 hv n=.slice (some ⟨hb,0,none⟩) (nth cB h.objs n).held.length uc) (v:Va) :
  cD w0 g ((w.setCell ⟨hb,q*4+2,none⟩ (int i64 v.kind)).setCell ⟨hb,q*4+3,none⟩ (int i64 v.n)) p (h.setV n q v) vo vx hv
  /\ Fr w0.heap.size g.T w ((w.setCell ⟨hb,q*4+2,none⟩ (int i64 v.kind)).setCell ⟨hb,q*4+3,none⟩ (int i64 v.n)):=by
 have hh:=H.obs.held n hn
 rw [hu] at hh
 have Rx:∃cur,w.heap[hb]?=some (.cells cur 214 (0,0))/\w0.heap.size<=hb:=by
  rcases hh.2 with ⟨e,-⟩|⟨gb,cap,cur,e,h2,h3,h4⟩
  ·simp at e
  ·simp at e;obtain ⟨rfl,-⟩:=e;exact ⟨cur,h3,h2⟩
 obtain ⟨cur,EH,hB⟩:=Rx
 have EI:=ax (i:=q*4+2) EH (int i64 v.kind)
 have hT:jP g.T 214:=.inr (.inr (.inl rfl))
 refine ⟨⟨H.own,?_,Below.setCell (Below.setCell H.bl hB _) hB _,?_,?_,?_,?_,?_⟩,((Fr.refl _ _ w).set EH hT hB _).set EI hT hB _⟩
 ·have hne:p≠hb:=by rintro rfl;have:=H.blk;rw [EH] at this;simp at this;exact k.h this.2.symm
  rw [aA hne,aA hne];exact H.blk
 ·exact df (df H.out EH (by decide) _) EI (by decide) _
 ·simp [Hp.setV,H.obs.len]
 ·have e:dw (h.setV n q v).objs hv=dw h.objs hv:=o7 _ _ _ _ rfl
  rw [e]
  have hl:(h.setV n q v).objs.length=h.objs.length:=by simp [Hp.setV]
  rw [hl]
  exact df (df H.obs.row EH (by decide) _) EI (by decide) _
 ·intro i hi
  have hl:(h.setV n q v).objs.length=h.objs.length:=by simp [Hp.setV]
  rw [hl] at hi
  by_cases pC:n=i
  ·subst pC
   have e:(nth cB (h.setV n q v).objs n).held=(nth cB h.objs n).held.set q { nth cH (nth cB h.objs n).held q with v:=v }:=by unfold Hp.setV;rw [eu hn]
   rw [e,hu,o6 _ _ _ hq]
   have s1:=hh.stored (q*4+2) (int i64 v.kind)
   have s2:=s1.1.stored (q*4+3) (int i64 v.n)
   simpa using s2.1
  ·have e:nth cB (h.setV n q v).objs i=nth cB h.objs i:=by unfold Hp.setV;exact dY pC
   rw [e]
   have ha:(nth hv0 hv i).ownBlock≠some hb:=by
    have:=H.obs.apart i n hi hn (Ne.symm pC)
    rw [hu] at this
    rcases this with h1|h1
    ·rw [h1];simp
    ·exact h1
   exact sC (sC (H.obs.held i hi) ha _) ha _
 ·have hl:(h.setV n q v).objs.length=h.objs.length:=by simp [Hp.setV]
  rw [hl]
  exact H.obs.apart
theorem wR {w:World} {A:Option Addr} {cs:List Cl} (h:ct w A cs) {c f:Nat} (hc:c<cs.length) (hf:f<(nth cg cs c).fields.length) :
  ∃b off F fo uc,A=some ⟨b,off,none⟩/\w.cell? ⟨b,off+c*2+1,none⟩=some (.slice (some ⟨F,fo,none⟩) (nth cg cs c).fields.length uc)/\cs.length<=maxLen/\(nth cg cs c).fields.length<=maxLen
   /\ w.cell? ⟨F,fo+f*2,none⟩=some (int i64 (nth cN (nth cg cs c).fields f).kind)/\w.cell? ⟨F,fo+f*2+1,none⟩=some (int i64 (nth cN (nth cg cs c).fields f).cls):=by
 rcases h.2 with h0|⟨b,off,rfl,hcell⟩
 ·omega
 obtain ⟨-,-,A',uc,jC,hty⟩:=hcell c hc
 rcases hty.2 with h0|⟨F,fo,rfl,htc⟩
 ·omega
 exact ⟨b,off,F,fo,uc,rfl,jC,h.1,hty.1,(htc f hf).1,(htc f hf).2.1⟩
theorem EJ (h:Hp) (e:Int):(h.fin e).file=h.file/\(h.fin e).input=h.input:=by unfold Hp.fin;split<;>exact ⟨rfl,rfl⟩
theorem oj (h:Hp) (b:Bool):(h.must b).file=h.file/\(h.must b).input=h.input:=by
 unfold Hp.must;split
 ·exact ⟨rfl,rfl⟩
 ·exact EJ h 6
section
variable {w0 w:World} {g:Ad} {p:Nat} {h:Hp}
theorem Hs.bl (H:Hs w0 g w p h):Bl w0 w:=by
 obtain ⟨vo,vx,hv,H⟩:=H
 exact H.bl
theorem Hs.c0 {h':Hp} (H:Hs w0 g w p h') (he:h'.file=h.file):w.cell? ⟨p,0,none⟩=some (.slice g.A h.file.classes.length g.a):=by
 obtain ⟨vo,vx,hv,H⟩:=H
 rw [<-he];exact H.cells.c0
end
theorem I4 (w0:World) (g:Ad) (p:Nat) (h:Hp) (r:Va) (c f:Nat) (v:Va) (w:World) (hH:Hs w0 g w p h) (C:Cw w0 g h) (yH:r.kind=3->r.n<h.objs.length) (kX:v.kind=3->v.n<h.objs.length)
  (hc:c<h.file.classes.length) (hf:f<(nth cg h.file.classes c).fields.length) :
  Calls Tryz.prog 115 #[.pointer (some ⟨p,0,none⟩),iE r,int i64 (c:Int),int i64 (f:Int),iE v] w fun e w'=>e=.returned (.tuple #[])/\Hs w0 g w' p (h.put r c f v)/\Fr w0.heap.size g.T w w':=by
 have cI:=hH.base
 have HF:Hid (Fr w0.heap.size g.T w ((w.alloc (cT r)).alloc (cT v))):=((Fr.refl _ _ w).alloc cI _).alloc (by simp;omega) _
 have HH:Hid (Hs w0 g ((w.alloc (cT r)).alloc (cT v)) p h):=hH.cf (((Cf.refl _ _ w).alloc cI _).alloc (by simp;omega) _)
 have HV:Hid (aP ((w.alloc (cT r)).alloc (cT v)) w.heap.size r):=(iT w r v).1
 have HU:Hid (aP ((w.alloc (cT r)).alloc (cT v)) (w.heap.size+1) v):=(iT w r v).2
 have HC:Hid (Cw w0 g h):=C
 have xY:Hid (r.kind=3->r.n<h.objs.length):=yH
 have La:Hid (v.kind=3->v.n<h.objs.length):=kX
 have Mt:Bl w0 ((w.alloc (cT r)).alloc (cT v)):=HH.out.bl
 obtain ⟨b,off,F,fo,uc,NK,y0,K8,KC,y1,y2⟩:=wR C.cls hc hf
 have vC:Hid (w0.cell? ⟨b,off+c*2+1,none⟩=some (.slice (some ⟨F,fo,none⟩) (nth cg h.file.classes c).fields.length uc)):=y0
 have rM:Hid (w0.cell? ⟨F,fo+f*2,none⟩=some (int i64 (nth cN (nth cg h.file.classes c).fields f).kind)):=y1
 have Dj:Hid (w0.cell? ⟨F,fo+f*2+1,none⟩=some (int i64 (nth cN (nth cg h.file.classes c).fields f).cls)):=y2
 replace y0:=Mt.cell y0
 replace y1:=Mt.cell y1
 replace y2:=Mt.cell y2
 unfold maxLen at K8 KC
 have c0:((w.alloc (cT r)).alloc (cT v)).cell? ⟨p,0,none⟩=some (.slice (some ⟨b,off,none⟩) h.file.classes.length g.a):=by rw [HH.out.c0 rfl,NK]
 have u0:=HU.out.c0
 have u1:=HU.out.c1
 have hc0:(0:Int)<=(c:Int):=by omega
 have Ey:(c:Int)<(h.file.classes.length:Int):=by omega
 have LM:(0:Int)<=(f:Int):=by omega
 have G6:(f:Int)<((nth cg h.file.classes c).fields.length:Int):=by omega
 clear hH C yH kX
 have TL:dW h.file.classes (c:Int) (f:Int)=nth cN (nth cg h.file.classes c).fields f:=by unfold dW;rw [Int.toNat_natCast,Int.toNat_natCast]
 generalize hT:nth cN (nth cg h.file.classes c).fields f=t at *
 obtain ⟨O,hO⟩:∃O,h.of v t=O:=⟨_,rfl⟩
 have HO:Hid (h.of v t=O):=hO
 have Ry:Hid (g.A=some ⟨b,off,none⟩):=NK
 clear hT NK
 have OH:h.put r c f v=if h.mustB O=true then (if h.findN r c f<0 then h.findH r c else (h.findH r c).setV r.n.toNat (h.findN r c f).toNat v) else h.must O:=by
  unfold Hp.put;rw [TL,hO]
 rw [OH]
 clear OH TL hO
 cases hm:h.mustB O
 ·rw [if_neg (by decide)]
  go_enter Tryz.func115,Tryz.ntmps115
  go_wp2
  go_region_held3 (fun w'=>w'.cell? ⟨p,0,none⟩=some (.slice (some ⟨b,off,none⟩) h.file.classes.length g.a)/\w'.cell? ⟨w.heap.size+1,0,none⟩=some (int i64 v.kind)/\w'.cell? ⟨w.heap.size+1,1,none⟩=some (int i64 v.n)/\w'.cell? ⟨b,off+c*2+1,none⟩=some (.slice (some ⟨F,fo,none⟩) (nth cg h.file.classes c).fields.length uc)/\w'.cell? ⟨F,fo+f*2,none⟩=some (int i64 t.kind)/\w'.cell? ⟨F,fo+f*2+1,none⟩=some (int i64 t.cls))
   (go_keep)
   (first
    | (go_at_call 57;refine (jn w0 g p h v t _ (by first|exact HH.out.cf (Cf.drew (Cf.refl _ _ _))|exact HH.out) HC.out.cls HC.out.tree La.out).mono ?_;rintro e w1 ⟨he,h1,f1,b1⟩;rw [HO.out] at he;subst he;have e0:=b1.cell c0;have e1:=b1.cell u0;have e2:=b1.cell u1;have e3:=b1.cell y0;have e4:=b1.cell y1;have e5:=b1.cell y2)
    | (go_at_call 55;refine (bk w0 g HC.out.k p h O _ h1).mono ?_;rintro e w2 ⟨he,h2,f2⟩;rw [hm] at he;subst he;have a0:=h2.c0 (oj h O).1;rw [Ry.out] at a0;have bu:=(HU.out.keep HC.out.k (Fr.trans (Fr.drew (Fr.refl _ _ _)) f1)).keep HC.out.k f2;have a1:=bu.c0;have a2:=bu.c1;clear bu;have a3:=h2.bl.cell vC.out;have a4:=h2.bl.cell rM.out;have a5:=h2.bl.cell Dj.out))
  go_wp2
  (try simp only [Exit.inBlock,Exit.then])
  first|exact bodyPost_ret (results_none rfl _ _ _) rfl ⟨rfl,h2,(HF.out.drew.trans f1).trans f2⟩|(go_end0;exact ⟨rfl,h2,(HF.out.drew.trans f1).trans f2⟩)
 ·obtain ⟨rfl,br,xX⟩:=dX hm
  have rS:Hid (h.must true=h):=xX
  clear xX br
  rw [if_pos rfl]
  by_cases oa:h.findN r c f<0
  ·rw [if_pos oa]
   obtain ⟨N,hN⟩:∃N,h.findN r c f=N:=⟨_,rfl⟩
   have HN:Hid (h.findN r c f=N):=hN
   rw [hN] at oa
   clear hN
   go_enter Tryz.func115,Tryz.ntmps115
   go_wp2
   go_region_held3 (fun w'=>w'.cell? ⟨p,0,none⟩=some (.slice (some ⟨b,off,none⟩) h.file.classes.length g.a)/\w'.cell? ⟨w.heap.size+1,0,none⟩=some (int i64 v.kind)/\w'.cell? ⟨w.heap.size+1,1,none⟩=some (int i64 v.n)/\w'.cell? ⟨b,off+c*2+1,none⟩=some (.slice (some ⟨F,fo,none⟩) (nth cg h.file.classes c).fields.length uc)/\w'.cell? ⟨F,fo+f*2,none⟩=some (int i64 t.kind)/\w'.cell? ⟨F,fo+f*2+1,none⟩=some (int i64 t.cls))
    (go_keep)
    (first
     | (go_at_call 57;refine (jn w0 g p h v t _ (by first|exact HH.out.cf (Cf.drew (Cf.refl _ _ _))|exact HH.out) HC.out.cls HC.out.tree La.out).mono ?_;rintro e w1 ⟨he,h1,f1,b1⟩;rw [HO.out] at he;subst he;have e0:=b1.cell c0;have e1:=b1.cell u0;have e2:=b1.cell u1;have e3:=b1.cell y0;have e4:=b1.cell y1;have e5:=b1.cell y2)
     | (go_at_call 55;refine (bk w0 g HC.out.k p h true _ h1).mono ?_;rintro e w2 ⟨he,h2,f2⟩;rw [hm] at he;subst he;have a0:=h2.c0 (oj h true).1;rw [Ry.out] at a0;have bu:=(HU.out.keep HC.out.k (Fr.trans (Fr.drew (Fr.refl _ _ _)) f1)).keep HC.out.k f2;have a1:=bu.c0;have a2:=bu.c1;clear bu;have a3:=h2.bl.cell vC.out;have a4:=h2.bl.cell rM.out;have a5:=h2.bl.cell Dj.out))
   rw [rS.out] at h2
   have x0:=((HV.out.keep HC.out.k (Fr.trans (Fr.drew (Fr.refl _ _ _)) f1)).keep HC.out.k f2).c0
   have x1:=((HV.out.keep HC.out.k (Fr.trans (Fr.drew (Fr.refl _ _ _)) f1)).keep HC.out.k f2).c1
   go_wp2_with (go_at_call 158;refine (nO w0 g p h r c f _ h2 HC.out xY.out).mono ?_;rintro e w3 ⟨he,h3,f3⟩;rw [HN.out] at he;subst he)
   go_end0
   exact ⟨rfl,h3,((HF.out.drew.trans f1).trans f2).trans f3⟩
  ·rw [if_neg oa]
   obtain ⟨e2,hk,n,q,NM,kx,Ms,eR⟩:=wQ xY.out oa
   rw [e2,NM,Ms,Int.toNat_natCast,Int.toNat_natCast]
   have Md:Hid (h.findH r c=h):=e2
   have EG:Hid (h.findN r c f=q):=Ms
   obtain ⟨rk,rn⟩:=r
   dsimp only at *
   subst NM
   clear e2 Ms oa hk
   have kv:(0:Int)<=(n:Int):=by omega
   have kg:(n:Int)<(h.objs.length:Int):=by omega
   have cV:(0:Int)<=(q:Int):=by omega
   have mN:(q:Int)<((nth cB h.objs n).held.length:Int):=by omega
   go_enter Tryz.func115,Tryz.ntmps115
   go_wp2
   go_region_held3 (fun w'=>w'.cell? ⟨p,0,none⟩=some (.slice (some ⟨b,off,none⟩) h.file.classes.length g.a)/\w'.cell? ⟨w.heap.size+1,0,none⟩=some (int i64 v.kind)/\w'.cell? ⟨w.heap.size+1,1,none⟩=some (int i64 v.n)/\w'.cell? ⟨b,off+c*2+1,none⟩=some (.slice (some ⟨F,fo,none⟩) (nth cg h.file.classes c).fields.length uc)/\w'.cell? ⟨F,fo+f*2,none⟩=some (int i64 t.kind)/\w'.cell? ⟨F,fo+f*2+1,none⟩=some (int i64 t.cls))
    (go_keep)
    (first
     | (go_at_call 57;refine (jn w0 g p h v t _ (by first|exact HH.out.cf (Cf.drew (Cf.refl _ _ _))|exact HH.out) HC.out.cls HC.out.tree La.out).mono ?_;rintro e w1 ⟨he,h1,f1,b1⟩;rw [HO.out] at he;subst he;have e0:=b1.cell c0;have e1:=b1.cell u0;have e2:=b1.cell u1;have e3:=b1.cell y0;have e4:=b1.cell y1;have e5:=b1.cell y2)
     | (go_at_call 55;refine (bk w0 g HC.out.k p h true _ h1).mono ?_;rintro e w2 ⟨he,h2,f2⟩;rw [hm] at he;subst he;have a0:=h2.c0 (oj h true).1;rw [Ry.out] at a0;have bu:=(HU.out.keep HC.out.k (Fr.trans (Fr.drew (Fr.refl _ _ _)) f1)).keep HC.out.k f2;have a1:=bu.c0;have a2:=bu.c1;clear bu;have a3:=h2.bl.cell vC.out;have a4:=h2.bl.cell rM.out;have a5:=h2.bl.cell Dj.out))
   rw [rS.out] at h2
   have x0:=((HV.out.keep HC.out.k (Fr.trans (Fr.drew (Fr.refl _ _ _)) f1)).keep HC.out.k f2).c0
   have x1:=((HV.out.keep HC.out.k (Fr.trans (Fr.drew (Fr.refl _ _ _)) f1)).keep HC.out.k f2).c1
   have Rz:Hid (aP w2 w.heap.size ⟨rk,n⟩):=(HV.out.keep HC.out.k (Fr.trans (Fr.drew (Fr.refl _ _ _)) f1)).keep HC.out.k f2
   have TM:Hid (aP w2 (w.heap.size+1) v):=(HU.out.keep HC.out.k (Fr.trans (Fr.drew (Fr.refl _ _ _)) f1)).keep HC.out.k f2
   go_wp2_with (go_at_call 158;refine (nO w0 g p h ⟨rk,n⟩ c f _ h2 HC.out xY.out).mono ?_;rintro e w3 ⟨he,h3,f3⟩;rw [EG.out] at he;subst he;rw [Md.out] at h3;have k1:=(Rz.out.keep HC.out.k f3).c1;have k2:=(TM.out.keep HC.out.k f3).c0;have k3:=(TM.out.keep HC.out.k f3).c1;obtain ⟨vo,vx,hv,H⟩:=h3;have HA:Hid (cD w0 g w3 p h vo vx hv):=H;obtain ⟨gb,cap,U,uc',mY,yE,o1,o2,hu,OE,wP⟩:=mO H kx;have c2:=H.cells.c2;rw [mY] at c2;clear H mY;have VP:Hid (nth hv0 hv n=.slice U (nth cB h.objs n).held.length uc'):=hu;clear hu;unfold maxLen at yE OE)
   rcases wP with h0|⟨hb,rfl,Qi,hcell⟩
   ·omega
   obtain ⟨-,-,Yb,Yc⟩:=hcell q eR
   have z2:=Qi (q*4+2)
   have z3:=Qi (q*4+3)
   clear hcell o1 Qi
   go_region
   all_goals go_wp2
   all_goals
    go_end0
    have hh:=HA.out.heldSet HC.out.k kx eR VP.out v
    exact ⟨rfl,⟨vo,vx,hv,hh.1.cf (Cf.drew (Cf.refl _ _ _))⟩,((((HF.out.drew.trans f1).trans f2).trans f3).trans hh.2).drew⟩
section
variable (w0:World) (g:Ad) (p:Nat) (h:Hp)
theorem dj (w:World) (hH:Hs w0 g w p h) :
  Calls Tryz.prog 55 #[.pointer (some ⟨p,0,none⟩),.bool true] w fun e w'=>e=.returned (.bool (!h.over))/\w'=w:=by
 obtain ⟨vo,vx,hv,H⟩:=hH
 have c12:=H.cells.c12
 clear H
 go_enter Tryz.func55,Tryz.ntmps55
 go_wp2
 go_ret
 exact ⟨rfl,rfl⟩
theorem EK (v:Va) (c:Int) (w:World) (hH:Hs w0 g w p h) (C:Cw w0 g h) (kX:v.kind=3->v.n<h.objs.length) :
  Calls Tryz.prog 135 #[.pointer (some ⟨p,0,none⟩),iE v,int i64 c] w fun e w'=>e=.returned (.tuple #[])/\Hs w0 g w' p (h.cast v c)/\Fr w0.heap.size g.T w w':=by
 have cI:=hH.base
 have HF:Hid (Fr w0.heap.size g.T w (w.alloc (cT v))):=(Fr.refl _ _ w).alloc cI _
 have HH:Hid (Hs w0 g (w.alloc (cT v)) p h):=hH.cf ((Cf.refl _ _ w).alloc cI _)
 have HV:Hid (aP (w.alloc (cT v)) w.heap.size v):=aP.new w v
 have HC:Hid (Cw w0 g h):=C
 have La:Hid (v.kind=3->v.n<h.objs.length):=kX
 have hk:(v.kind==3)=isRef v:=by unfold isRef;rw [Bool.eq_iff_iff];simp
 clear hH C kX
 cases hm:h.mustB (isRef v)
 ·have hr:h.cast v c=h.must (isRef v):=by unfold Hp.cast;rw [if_neg (by rw [hm];decide)]
  rw [hr]
  clear hr
  go_enter Tryz.func135,Tryz.ntmps135
  go_wp2_with (go_at_call 55;refine (bk w0 g HC.out.k p h _ _ HH.out).mono ?_;rintro e w1 ⟨he,h1,f1⟩;rw [hm] at he;subst he)
  go_end0
  exact ⟨rfl,h1,HF.out.trans f1⟩
 ·obtain ⟨hb,br,xX⟩:=dX hm
  have rS:Hid (h.must (isRef v)=h):=xX
  clear xX hb br
  cases hO:h.of v ⟨3,c⟩
  ·have hr:h.cast v c=h.raise 3:=by unfold Hp.cast;rw [if_pos hm,if_neg (by rw [hO];decide)]
   rw [hr]
   clear hr
   go_enter Tryz.func135,Tryz.ntmps135
   go_wp2_with (first
    | (go_at_call 55;refine (bk w0 g HC.out.k p h _ _ HH.out).mono ?_;rintro e w1 ⟨he,h1,f1⟩;rw [hm] at he;subst he;rw [rS.out] at h1;have r0:=(HV.out.keep HC.out.k f1).c0;have r1:=(HV.out.keep HC.out.k f1).c1)
    | (go_at_call 57;refine (jn w0 g p h v ⟨3,c⟩ _ h1 HC.out.cls HC.out.tree La.out).mono ?_;rintro e w2 ⟨he,h2,f2,-⟩;rw [hO] at he;subst he)
    | (go_at_call 157;refine (kl w0 g p h 3 _ h2 HC.out (by omega)).mono ?_;rintro e w3 ⟨rfl,h3,f3⟩))
   go_end0
   exact ⟨rfl,h3,((HF.out.trans f1).trans f2).trans f3⟩
  ·have hr:h.cast v c=h:=by unfold Hp.cast;rw [if_pos hm,if_pos hO]
   rw [hr]
   clear hr
   go_enter Tryz.func135,Tryz.ntmps135
   go_wp2_with (first
    | (go_at_call 55;refine (bk w0 g HC.out.k p h _ _ HH.out).mono ?_;rintro e w1 ⟨he,h1,f1⟩;rw [hm] at he;subst he;rw [rS.out] at h1;have r0:=(HV.out.keep HC.out.k f1).c0;have r1:=(HV.out.keep HC.out.k f1).c1)
    | (go_at_call 57;refine (jn w0 g p h v ⟨3,c⟩ _ h1 HC.out.cls HC.out.tree La.out).mono ?_;rintro e w2 ⟨he,h2,f2,-⟩;rw [hO] at he;subst he))
   go_end0
   exact ⟨rfl,h2,(HF.out.trans f1).trans f2⟩
end
def wS (w:World) (A:Option Addr) (l:List Va):Prop :=
 l.length<=maxLen/\(l.length=0∨∃b off,A=some ⟨b,off,none⟩/\∀i,i<l.length ->
  w.cell? ⟨b,off+i*2,none⟩=some (int i64 (nth ag l i).kind)/\w.cell? ⟨b,off+i*2+1,none⟩=some (int i64 (nth ag l i).n))
theorem zZ (l:List Va):aQ l<=2*l.length:=by
 induction l with
 | nil=>simp [aQ]
 | cons t l ih=>simp only [aQ,List.length_cons];split<;>omega
theorem BS (l:List Va) (k:Nat) (h:k<l.length):aQ (l.take (k+1))=aQ (l.take k)+(if (nth ag l k).kind=2 then 2 else 1):=by
 induction l generalizing k with
 | nil=>simp at h
 | cons t l ih =>
  cases k with
  | zero=>simp [aQ,nth]
  | succ k =>
   have:=ih k (by simpa using h)
   have e:nth ag (t::l) (k+1)=nth ag l k:=by simp [nth]
   rw [e,List.take_succ_cons,List.take_succ_cons,aQ,aQ,this];omega
theorem EL (A:Option Addr) (c:Nat) (l:List Va) (w:World) (hl:wS w A l) (hb:l.length<=1000000) :
  Calls Tryz.prog 53 #[.slice A l.length c] w fun e w'=>e=.returned (int i64 (aQ l:Nat))/\w'=w:=by
 obtain ⟨hm,hl⟩:=hl
 clear hm
 have HS:Hid (∀k,k<l.length->aQ (l.take (k+1))=aQ (l.take k)+(if (nth ag l k).kind=2 then 2 else 1)):=BS l
 have HB:Hid (∀k,aQ (l.take k)<=2*k):=fun k=>by have:=zZ (l.take k);have:=List.length_take_le k l;omega
 go_enter Tryz.func53,Tryz.ntmps53
 go_wp2
 go_loop [3,4] (fun n i=>∃k:Nat,k<=l.length/\i=int i64 k/\n=int i64 ((l.length:Int)+((aQ (l.take k):Nat):Int)-k)) (fun _ i=>l.length-(intOf i).toNat)
 case atStart=>exact ⟨0,Nat.zero_le _,rfl,by simp [aQ]⟩
 case round =>
  obtain ⟨k,hk,rfl,rfl⟩:=hrel
  have h2:=HB.out k
  by_cases hlt:k<l.length
  ·rcases hl with h0|⟨b,off,rfl,hcell⟩
   ·omega
   have ht:=(hcell k hlt).1
   have hs:=HS.out k hlt
   clear hcell
   by_cases mw:(nth ag l k).kind=2
   ·rw [if_pos mw] at hs
    rw [mw] at ht
    have H8:Hid (aQ (l.take (k+1))=aQ (l.take k)+2):=hs
    clear hs mw
    go_wp2
    go_round
    case rel=>exact ⟨k+1,by omega,by go_num,by rw [H8.out];go_num⟩
    case measure=>simp [intOf];omega
   ·rw [if_neg mw] at hs
    have H8:Hid (aQ (l.take (k+1))=aQ (l.take k)+1):=hs
    have QW:((nth ag l k).kind==2)=false:=by simpa using mw
    clear hs mw
    go_wp2
    go_round
    case rel=>exact ⟨k+1,by omega,by go_num,by rw [H8.out];go_num⟩
    case measure=>simp [intOf];omega
  ·obtain rfl:k=l.length:=by omega
   rw [List.take_length] at *
   go_wp2
   go_ret
   exact ⟨lT (by omega),rfl⟩
structure cy (w:World) (b:Nat) (l:List Va):Prop where
 blk:w.heap[b]?=some (.cells (aL l).toArray 62 (0,0))
 len:l.length<=maxLen
section
variable {w:World} {b:Nat} {l:List Va}
theorem cy.c0 (h:cy w b l) {i:Nat} (hi:i<l.length):w.cell? ⟨b,i*2,none⟩=some (int i64 (nth ag l i).kind):=by
 rw [aa h.blk];simpa using (fL l i hi).1
theorem cy.c1 (h:cy w b l) {i:Nat} (hi:i<l.length):w.cell? ⟨b,i*2+1,none⟩=some (int i64 (nth ag l i).n):=by
 rw [aa h.blk];simpa using (fL l i hi).2
theorem cy.fr (h:cy w b l) (i:Nat):w.frozen? ⟨b,i,none⟩=false:=ay h.blk i
theorem cy.set (h:cy w b l) {i:Nat} (hi:i<l.length) (v:Va):cy ((w.setCell ⟨b,i*2,none⟩ (int i64 v.kind)).setCell ⟨b,i*2+1,none⟩ (int i64 v.n)) b (l.set i v) :=
 ⟨by rw [ax (ax h.blk _),k8 l i v hi];simp,by rw [List.length_set];exact h.len⟩
theorem cy.vas (h:cy w b l):wS w (some ⟨b,0,none⟩) l :=
 ⟨h.len,Or.inr ⟨b,0,rfl,fun i hi=>by rw [Nat.zero_add];exact ⟨h.c0 hi,h.c1 hi⟩⟩⟩
end
structure eM (b:Nat) (w w':World):Prop where
 os:w'.os=w.os
 tape:w'.tape=w.tape
 output:w'.output=w.output
 size:w.heap.size<=w'.heap.size
 block:∀k,k<w.heap.size->k≠b->w'.heap[k]?=w.heap[k]?
theorem eM.refl (b:Nat) (w:World):eM b w w:=⟨rfl,rfl,rfl,Nat.le_refl _,fun _ _ _=>rfl⟩
theorem eM.trans {b:Nat} {x y z:World} (h:eM b x y) (k:eM b y z):eM b x z :=
 ⟨k.os.trans h.os,k.tape.trans h.tape,k.output.trans h.output,Nat.le_trans h.size k.size,fun i hi hb=>(k.block i (Nat.lt_of_lt_of_le hi h.size) hb).trans (h.block i hi hb)⟩
section
variable {b:Nat} {a w:World}
theorem eM.alloc (h:eM b a w) (o:Obj):eM b a (w.alloc o) :=
 h.trans ⟨rfl,rfl,rfl,by simp,fun k hk _=>Below.heap_alloc _ _ _ hk⟩
theorem eM.set (h:eM b a w) (i:Nat) (v:Value):eM b a (w.setCell ⟨b,i,none⟩ v) :=
 h.trans ⟨rfl,rfl,rfl,by simp [World.setCell],fun k hk hb=>aA hb v⟩
theorem eM.drew (h:eM b a w):eM b a w.drew:=⟨h.os,h.tape,h.output,h.size,h.block⟩
end
theorem qI (b:Nat) (l:List Va) (a c:Nat) (w:World) (hL:cy w b l) (ha:a<l.length) (h9:(nth ag l a).kind=9->1<=a) (h2:(nth ag l a).kind=2->a+1<l.length) :
  Calls Tryz.prog 109 #[.slice (some ⟨b,0,none⟩) l.length c,int i64 (a:Int)] w fun e w'=>e=.returned (.tuple #[])/\cy w' b (cF l a)/\eM b w w':=by
 have HL:Hid (cy w b l):=hL
 have hm:=hL.len
 unfold maxLen at hm
 have c0:=hL.c0 ha
 have c1:=hL.c1 ha
 have fz:=hL.fr
 have ha0:(0:Int)<=(a:Int):=by omega
 have Hv:(a:Int)<(l.length:Int):=by omega
 clear hL
 by_cases k9:(nth ag l a).kind=9
 ·have h1:=h9 k9
  have e:cF l a=(l.set (a-1) ag).set a ag:=by unfold cF;rw [if_pos k9]
  rw [e]
  obtain ⟨a',rfl⟩:∃a',a=a'+1:=⟨a-1,by omega⟩
  have zT:a'<l.length:=by omega
  have d0:=HL.out.c0 zT
  have d1:=HL.out.c1 zT
  rw [k9] at c0
  clear e h9 h2 k9
  go_enter Tryz.func109,Tryz.ntmps109
  go_wp2
  go_end0
  exact ⟨rfl,((HL.out.set zT ag).set (by rw [List.length_set];exact ha) ag),((((eM.refl b w).set _ _).set _ _).set _ _).set _ _⟩
 ·have n9:((nth ag l a).kind==9)=false:=by simpa using k9
  by_cases k2:(nth ag l a).kind=2
  ·have h1:=h2 k2
   have e:cF l a=(l.set (a+1) ag).set a ag:=by unfold cF;rw [if_neg k9,if_pos k2]
   rw [e]
   have d0:=HL.out.c0 h1
   have d1:=HL.out.c1 h1
   have hb1:((a:Int)+1)<(l.length:Int):=by omega
   rw [k2] at c0
   clear e h9 h2 k9 k2 n9
   go_enter Tryz.func109,Tryz.ntmps109
   go_wp2
   go_end0
   exact ⟨rfl,((HL.out.set h1 ag).set (by rw [List.length_set];exact ha) ag),((((eM.refl b w).set _ _).set _ _).set _ _).set _ _⟩
  ·have n2:((nth ag l a).kind==2)=false:=by simpa using k2
   have e:cF l a=l.set a ag:=by unfold cF;rw [if_neg k9,if_neg k2]
   rw [e]
   clear e h9 h2 k9 k2
   go_enter Tryz.func109,Tryz.ntmps109
   go_wp2
   go_end0
   exact ⟨rfl,HL.out.set ha ag,((eM.refl b w).set _ _).set _ _⟩
theorem BT (l:List Va) (a i:Nat) (hi:i<l.length):nth ag (cF l a) i=ag∨nth ag (cF l a) i=nth ag l i:=by
 have key:∀(m:List Va) (j:Nat),nth ag (m.set j ag) i=ag∨nth ag (m.set j ag) i=nth ag m i:=fun m j=>by
  by_cases hj:j=i
  ·subst hj
   by_cases hm:j<m.length
   ·exact Or.inl (eu hm)
   ·right;rw [List.set_eq_of_length_le (by omega)]
  ·exact Or.inr (dY hj)
 unfold cF
 split
 ·rcases key (l.set (a-1) ag) a with h|h
  ·exact Or.inl h
  ·rw [h];exact key l (a-1)
 ·split
  ·rcases key (l.set (a+1) ag) a with h|h
   ·exact Or.inl h
   ·rw [h];exact key l (a+1)
  ·exact key l a
theorem eM.box {b:Nat} {w w':World} (h:eM b w w') {c:Nat} {v:Va} (hv:aP w c v) (hb:c≠b):aP w' c v:=⟨(h.block c (af hv.blk) hb).trans hv.blk⟩
theorem sD (b:Nat) (l:List Va) (a c:Nat) (v:Va) (w:World) (hL:cy w b l) (hok:gY l) (ha:a<l.length) (h2:v.kind=2->a+1<l.length) :
  Calls Tryz.prog 52 #[.slice (some ⟨b,0,none⟩) l.length c,int i64 (a:Int),iE v] w fun e w'=>e=.returned (.tuple #[])/\cy w' b (eZ l a v)/\eM b w w':=by
 have hbl:=af hL.blk
 have HL:Hid (cy (w.alloc (cT v)) b l):=⟨(Below.heap_alloc _ _ _ hbl).trans hL.blk,hL.len⟩
 have HV:Hid (aP (w.alloc (cT v)) w.heap.size v):=aP.new w v
 have HO:Hid (eM b w (w.alloc (cT v))):=(eM.refl b w).alloc _
 have hm:=hL.len
 unfold maxLen at hm
 have hne:w.heap.size≠b:=by omega
 have VQ:b≠w.heap.size:=by omega
 have ha0:(0:Int)<=(a:Int):=by omega
 have Hv:(a:Int)<(l.length:Int):=by omega
 have H9:Hid ((nth ag l a).kind=9->1<=a):=hok.nine a ha
 have H2:Hid ((nth ag l a).kind=2->a+1<l.length):=hok.two a ha
 have hlen:=fR l a
 have om:Hid ((cF l a).length=l.length):=hlen
 clear hL
 by_cases k2:v.kind=2
 ·have mZ:=h2 k2
  have e:eZ l a v=(((cF (cF l a) (a+1)).set (a+1) ⟨9,0⟩).set a v):=by unfold eZ;rw [if_pos k2]
  rw [e]
  have VS:Hid ((nth ag (cF l a) (a+1)).kind=2->a+1+1<(cF l a).length):=fun hk=>by
   rw [hlen]
   rcases BT l a (a+1) mZ with h|h
   ·rw [h] at hk;exact absurd hk (by decide)
   ·rw [h] at hk;exact hok.two _ mZ hk
  have Lb:(cF (cF l a) (a+1)).length=l.length:=by rw [fR,hlen]
  have sE:Hid ((cF (cF l a) (a+1)).length=l.length):=Lb
  have hb1:((a:Int)+1)<(l.length:Int):=by omega
  obtain ⟨vk,vn⟩:=v
  dsimp only at *
  subst k2
  clear e h2 hok hlen Lb
  go_enter Tryz.func52,Tryz.ntmps52
  go_wp2_with (first
   | (go_at_call_of 109 (Value.int IntKind.i64 (a:Int));refine (qI b l a c _ HL.out ha H9.out H2.out).mono ?_;rintro e w1 ⟨rfl,l1,o1⟩;have r0:=(o1.box HV.out hne).c0;have r1:=(o1.box HV.out hne).c1;have TN:Hid (aP w1 w.heap.size ⟨2,vn⟩):=o1.box HV.out hne)
   | (go_at_call 109;rw [<-om.out];refine (qI b (cF l a) (a+1) c _ l1 (by rw [om.out];exact mZ) (fun _=>by omega) VS.out).mono ?_;rintro e w2 ⟨rfl,l2,o2⟩;have s0:=(o2.box TN.out hne).c0;have s1:=(o2.box TN.out hne).c1;have VT:Hid (cy w2 b (cF (cF l a) (a+1))):=l2;have t0:=l2.c0 (i:=a+1) (by rw [sE.out];exact mZ);have t1:=l2.c1 (i:=a+1) (by rw [sE.out];exact mZ);have t2:=l2.c0 (i:=a) (by rw [sE.out];exact ha);have t3:=l2.c1 (i:=a) (by rw [sE.out];exact ha);have fz:=l2.fr;clear l2;have Bw:((a:Int)+1)<((cF l a).length:Int):=(by rw [om.out];omega);have VU:(a:Int)<((cF l a).length:Int):=(by rw [om.out];omega);have Yd:(cF l a).length<=2 ^ 63-1:=(by rw [om.out];omega)))
  go_end0
  exact ⟨rfl,(VT.out.set (by rw [sE.out];exact mZ) ⟨9,0⟩).set (by rw [List.length_set,sE.out];exact ha) ⟨2,vn⟩,((((((HO.out.trans o1).trans o2).set _ _).set _ _).set _ _).set _ _)⟩
 ·have n2:(v.kind==2)=false:=by simpa using k2
  have e:eZ l a v=(cF l a).set a v:=by unfold eZ;rw [if_neg k2]
  rw [e]
  clear e h2 hok k2 hlen
  go_enter Tryz.func52,Tryz.ntmps52
  go_wp2_with (go_at_call 109;refine (qI b l a c _ HL.out ha H9.out H2.out).mono ?_;rintro e w1 ⟨rfl,l1,o1⟩;have r0:=(o1.box HV.out hne).c0;have r1:=(o1.box HV.out hne).c1;have VV:Hid (cy w1 b (cF l a)):=l1;have t2:=l1.c0 (i:=a) (by rw [om.out];exact ha);have t3:=l1.c1 (i:=a) (by rw [om.out];exact ha);have fz:=l1.fr;clear l1)
  go_end0
  exact ⟨rfl,VV.out.set (by rw [om.out];exact ha) v,((HO.out.trans o1).set _ _).set _ _⟩
theorem oq (w:World) (a b c:Va):aP (((w.alloc (cT a)).alloc (cT b)).alloc (cT c)) w.heap.size a/\aP (((w.alloc (cT a)).alloc (cT b)).alloc (cT c)) (w.heap.size+1) b/\aP (((w.alloc (cT a)).alloc (cT b)).alloc (cT c)) (w.heap.size+1+1) c:=by
 have h2:((w.alloc (cT a)).alloc (cT b)).heap.size=w.heap.size+1+1:=by rw [World.size_alloc,World.size_alloc]
 obtain ⟨p1,p2⟩:=iT w a b
 refine ⟨⟨?_⟩,⟨?_⟩,⟨?_⟩⟩
 ·rw [Below.heap_alloc _ _ _ (by omega)];exact p1.blk
 ·rw [Below.heap_alloc _ _ _ (by omega)];exact p2.blk
 ·rw [<-h2];exact aD _ _ _
theorem qJ (w0:World) (g:Ad) (p:Nat) (h:Hp) (a b:Va) (k op:Int) (w:World) (hH:Hs w0 g w p h) (C:Cw w0 g h) (hk:k=1∨k=2) (ia:cP a.n) (ib:cP b.n) :
  Calls Tryz.prog 159 #[.pointer (some ⟨p,0,none⟩),iE a,iE b,int i64 k,int i64 op] w fun e w'=>e=.returned (iE (h.reckV a b k op))/\Hs w0 g w' p (h.reckH a b k op)/\Fr w0.heap.size g.T w w':=by
 have cI:=hH.base
 have HF:Hid (Fr w0.heap.size g.T w (((w.alloc (cT a)).alloc (cT b)).alloc iy)):=(((Fr.refl _ _ w).alloc cI _).alloc (by simp;omega) _).alloc (by simp;omega) _
 have HH:Hid (Hs w0 g (((w.alloc (cT a)).alloc (cT b)).alloc iy) p h):=hH.cf ((((Cf.refl _ _ w).alloc cI _).alloc (by simp;omega) _).alloc (by simp;omega) _)
 have HA:Hid (aP (((w.alloc (cT a)).alloc (cT b)).alloc iy) w.heap.size a):=(oq w a b ag).1
 have HB:Hid (aP (((w.alloc (cT a)).alloc (cT b)).alloc iy) (w.heap.size+1) b):=(oq w a b ag).2.1
 have HR:Hid (aP (((w.alloc (cT a)).alloc (cT b)).alloc iy) (w.heap.size+1+1) ag):=(oq w a b ag).2.2
 have HC:Hid (Cw w0 g h):=C
 have ez:w0.heap.size<=w.heap.size+1+1:=by omega
 have gz:w.heap.size<=w.heap.size+1+1:=by omega
 have da:(a.kind==k)=decide (a.kind=k):=by rw [Bool.eq_iff_iff];simp
 have db:(b.kind==k)=decide (b.kind=k):=by rw [Bool.eq_iff_iff];simp
 clear hH C
 cases hm:h.mustB (cv a b k)
 ·have e1:h.reckV a b k op=ag:=by unfold Hp.reckV;rw [if_neg (by rw [hm];decide)]
  have e2:h.reckH a b k op=h.must (cv a b k):=by unfold Hp.reckH;rw [if_neg (by rw [hm];decide)]
  rw [e1,e2]
  clear e1 e2
  by_cases ka:a.kind=k
  ·have eo:cv a b k=decide (b.kind=k):=by unfold cv;rw [decide_eq_true ka];rfl
   rw [eo] at hm ⊢
   have TP:(a.kind==k)=true:=by simpa using ka
   clear da eo ka
   go_enter Tryz.func159,Tryz.ntmps159
   go_wp2_with (go_at_call 55;refine (bk w0 g HC.out.k p h _ _ HH.out).mono ?_;rintro e w1 ⟨he,h1,f1⟩;rw [hm] at he;subst he;have b1:=HR.out.keep HC.out.k f1;have r0:=b1.c0;have r1:=b1.c1;have r2:=b1.fr 0;have r3:=b1.fr 1;have kW:Hid (aP w1 (w.heap.size+1+1) ag):=b1;clear b1)
   (try simp only [Exit.inBlock,Exit.then])
   refine bodyPost_ret (results_cell_row rfl _ _ (w.heap.size+1+1) _ _ _ _ rfl (kW.out.set ag).blk Tryz.underlying62 rfl bp) rfl ?_
   exact ⟨rfl,h1.cf (kW.out.cf HC.out.k ez _ _),(((HF.out.trans f1).new gz ez _).new gz ez _)⟩
  ·have eo:cv a b k=false:=by unfold cv;rw [decide_eq_false ka];rfl
   rw [eo] at hm ⊢
   have TP:(a.kind==k)=false:=by simpa using ka
   clear da eo ka
   go_enter Tryz.func159,Tryz.ntmps159
   go_wp2_with (go_at_call 55;refine (bk w0 g HC.out.k p h false _ HH.out).mono ?_;rintro e w1 ⟨he,h1,f1⟩;rw [hm] at he;subst he;have b1:=HR.out.keep HC.out.k f1;have r0:=b1.c0;have r1:=b1.c1;have r2:=b1.fr 0;have r3:=b1.fr 1;have kW:Hid (aP w1 (w.heap.size+1+1) ag):=b1;clear b1)
   (try simp only [Exit.inBlock,Exit.then])
   refine bodyPost_ret (results_cell_row rfl _ _ (w.heap.size+1+1) _ _ _ _ rfl (kW.out.set ag).blk Tryz.underlying62 rfl bp) rfl ?_
   exact ⟨rfl,h1.cf (kW.out.cf HC.out.k ez _ _),(((HF.out.trans f1).new gz ez _).new gz ez _)⟩
 ·obtain ⟨hb,br,xX⟩:=dX hm
  have Oz:a.kind=k/\b.kind=k:=by unfold cv at hb;simp at hb;exact hb
  have rS:Hid (h.must true=h):=rfl
  have EM:h.mustB true=true:=by have:=hm;rw [hb] at this;exact this
  have TP:(a.kind==k)=true:=by simpa using Oz.1
  have Ye:(b.kind==k)=true:=by simpa using Oz.2
  obtain ⟨N,hN⟩:∃N,j7 k op a b=N:=⟨_,rfl⟩
  have e1:h.reckV a b k op=⟨k,N⟩:=by unfold Hp.reckV;rw [if_pos hm,hN]
  rw [e1]
  clear hb br xX Oz da db
  cases hR:iM k op a b
  ·have e2:h.reckH a b k op=h.raise 2:=by unfold Hp.reckH;rw [if_pos hm,if_neg (by rw [hR];decide)]
   rw [e2]
   rcases hk with hk|hk
   ·subst hk
    have HN:Hid (wrap32 (dF op (wrap32 a.n) (wrap32 b.n))=N):=hN
    have Dy:Hid (ey op (wrap32 b.n)=false):=hR
    clear hN hR e1 e2 hm
    go_enter Tryz.func159,Tryz.ntmps159
    go_wp2_with (first
     | (go_at_call 55;refine (bk w0 g HC.out.k p h true _ HH.out).mono ?_;rintro e w1 ⟨he,h1,f1⟩;rw [EM] at he;subst he;rw [rS.out] at h1;have b1:=HR.out.keep HC.out.k f1;have r0:=b1.c0;have r1:=b1.c1;have r2:=b1.fr 0;have r3:=b1.fr 1;have kW:Hid (aP w1 (w.heap.size+1+1) ag):=b1;clear b1;have x1:=(HA.out.keep HC.out.k f1).c1;have y1:=(HB.out.keep HC.out.k f1).c1)
     | (go_at_call 200;refine (kb op a.n b.n _ ia.1 ia.2 ib.1 ib.2).mono ?_;rintro e w5 ⟨he,kS⟩;subst he;rw [kS];clear kS w5)
     | (go_at_call 201;refine (vS op a.n b.n _).mono ?_;rintro e w6 ⟨he,Di⟩;rw [HN.out,Dy.out] at he;subst he;rw [Di];clear Di w6)
     | (go_at_call 157;refine (kl w0 g p h 2 _ h1 HC.out (by omega)).mono ?_;rintro e w2 ⟨rfl,h2,f2⟩;clear r0 r1 r2 r3;have b2:=kW.out.keep HC.out.k f2;have r0:=b2.c0;have r1:=b2.c1;have r2:=b2.fr 0;have r3:=b2.fr 1;have OI:Hid (aP w2 (w.heap.size+1+1) ag):=b2;clear b2))
    (try simp only [Exit.inBlock,Exit.then])
    refine bodyPost_ret (results_cell_row rfl _ _ (w.heap.size+1+1) _ _ _ _ rfl (OI.out.set ⟨1,N⟩).blk Tryz.underlying62 rfl bp) rfl ?_
    exact ⟨rfl,h2.cf (OI.out.cf HC.out.k ez _ _),((((HF.out.trans f1).trans f2).new gz ez _).new gz ez _)⟩
   ·subst hk
    have HN:Hid (dF op a.n b.n=N):=hN
    have Dy:Hid (ey op b.n=false):=hR
    clear hN hR e1 e2 hm
    go_enter Tryz.func159,Tryz.ntmps159
    go_wp2_with (first
     | (go_at_call 55;refine (bk w0 g HC.out.k p h true _ HH.out).mono ?_;rintro e w1 ⟨he,h1,f1⟩;rw [EM] at he;subst he;rw [rS.out] at h1;have b1:=HR.out.keep HC.out.k f1;have r0:=b1.c0;have r1:=b1.c1;have r2:=b1.fr 0;have r3:=b1.fr 1;have kW:Hid (aP w1 (w.heap.size+1+1) ag):=b1;clear b1;have x1:=(HA.out.keep HC.out.k f1).c1;have y1:=(HB.out.keep HC.out.k f1).c1)
     | (go_at_call 200;refine (kb op a.n b.n _ ia.1 ia.2 ib.1 ib.2).mono ?_;rintro e w5 ⟨he,kS⟩;rw [HN.out,Dy.out] at he;subst he;rw [kS];clear kS w5)
     | (go_at_call 157;refine (kl w0 g p h 2 _ h1 HC.out (by omega)).mono ?_;rintro e w2 ⟨rfl,h2,f2⟩;clear r0 r1 r2 r3;have b2:=kW.out.keep HC.out.k f2;have r0:=b2.c0;have r1:=b2.c1;have r2:=b2.fr 0;have r3:=b2.fr 1;have OI:Hid (aP w2 (w.heap.size+1+1) ag):=b2;clear b2))
    (try simp only [Exit.inBlock,Exit.then])
    refine bodyPost_ret (results_cell_row rfl _ _ (w.heap.size+1+1) _ _ _ _ rfl (OI.out.set ⟨2,N⟩).blk Tryz.underlying62 rfl bp) rfl ?_
    exact ⟨rfl,h2.cf (OI.out.cf HC.out.k ez _ _),((((HF.out.trans f1).trans f2).new gz ez _).new gz ez _)⟩
  ·have e2:h.reckH a b k op=h:=by unfold Hp.reckH;rw [if_pos hm,if_pos hR]
   rw [e2]
   rcases hk with hk|hk
   ·subst hk
    have HN:Hid (wrap32 (dF op (wrap32 a.n) (wrap32 b.n))=N):=hN
    have Dy:Hid (ey op (wrap32 b.n)=true):=hR
    clear hN hR e1 e2 hm
    go_enter Tryz.func159,Tryz.ntmps159
    go_wp2_with (first
     | (go_at_call 55;refine (bk w0 g HC.out.k p h true _ HH.out).mono ?_;rintro e w1 ⟨he,h1,f1⟩;rw [EM] at he;subst he;rw [rS.out] at h1;have b1:=HR.out.keep HC.out.k f1;have r0:=b1.c0;have r1:=b1.c1;have r2:=b1.fr 0;have r3:=b1.fr 1;have kW:Hid (aP w1 (w.heap.size+1+1) ag):=b1;clear b1;have x1:=(HA.out.keep HC.out.k f1).c1;have y1:=(HB.out.keep HC.out.k f1).c1)
     | (go_at_call 200;refine (kb op a.n b.n _ ia.1 ia.2 ib.1 ib.2).mono ?_;rintro e w5 ⟨he,kS⟩;subst he;rw [kS];clear kS w5)
     | (go_at_call 201;refine (vS op a.n b.n _).mono ?_;rintro e w6 ⟨he,Di⟩;rw [HN.out,Dy.out] at he;subst he;rw [Di];clear Di w6))
    (try simp only [Exit.inBlock,Exit.then])
    refine bodyPost_ret (results_cell_row rfl _ _ (w.heap.size+1+1) _ _ _ _ rfl (kW.out.set ⟨1,N⟩).blk Tryz.underlying62 rfl bp) rfl ?_
    exact ⟨rfl,h1.cf (kW.out.cf HC.out.k ez _ _),(((HF.out.trans f1).new gz ez _).new gz ez _)⟩
   ·subst hk
    have HN:Hid (dF op a.n b.n=N):=hN
    have Dy:Hid (ey op b.n=true):=hR
    clear hN hR e1 e2 hm
    go_enter Tryz.func159,Tryz.ntmps159
    go_wp2_with (first
     | (go_at_call 55;refine (bk w0 g HC.out.k p h true _ HH.out).mono ?_;rintro e w1 ⟨he,h1,f1⟩;rw [EM] at he;subst he;rw [rS.out] at h1;have b1:=HR.out.keep HC.out.k f1;have r0:=b1.c0;have r1:=b1.c1;have r2:=b1.fr 0;have r3:=b1.fr 1;have kW:Hid (aP w1 (w.heap.size+1+1) ag):=b1;clear b1;have x1:=(HA.out.keep HC.out.k f1).c1;have y1:=(HB.out.keep HC.out.k f1).c1)
     | (go_at_call 200;refine (kb op a.n b.n _ ia.1 ia.2 ib.1 ib.2).mono ?_;rintro e w5 ⟨he,kS⟩;rw [HN.out,Dy.out] at he;subst he;rw [kS];clear kS w5))
    (try simp only [Exit.inBlock,Exit.then])
    refine bodyPost_ret (results_cell_row rfl _ _ (w.heap.size+1+1) _ _ _ _ rfl (kW.out.set ⟨2,N⟩).blk Tryz.underlying62 rfl bp) rfl ?_
    exact ⟨rfl,h1.cf (kW.out.cf HC.out.k ez _ _),(((HF.out.trans f1).new gz ez _).new gz ez _)⟩
abbrev dH (m:Me) (P C K:Option Addr) (p c k:Nat):Obj:=.cells #[.slice P m.params.length p,int i64 m.ret.kind,int i64 m.ret.cls,int i64 m.stack,int i64 m.locs,int i64 m.regs,.slice C m.code.length c,.slice K m.hands.length k] 49
theorem yI (w0:World) (g:Ad) (p:Nat) (h:Hp) (m:Me) (P CC K:Option Addr) (pp c k:Nat) (pc:Int) (w:World) (hH:Hs w0 g w p h) (C:Cw w0 g h) (hK:kQ w0 K m.hands) (ht:0<=h.thrown/\h.thrown<h.objs.length) :
  Calls Tryz.prog 59 #[.pointer (some ⟨p,0,none⟩),iW m P CC K pp c k,int i64 pc] w fun e w'=>e=.returned (int i64 (h.caughtL pc m.hands))/\Hs w0 g w' p h/\Fr w0.heap.size g.T w w':=by
 have cI:=hH.base
 obtain ⟨vo,vx,hv,H⟩:=hH
 have HA:Hid (cD w0 g w p h vo vx hv):=H
 have HC:Hid (Cw w0 g h):=C
 have HK:Hid (kQ w K m.hands):=hK.bl H.bl
 have nu:Hid (ct w g.A h.file.classes):=C.cls.bl H.bl
 have Nz:=hK.1
 unfold maxLen at Nz
 obtain ⟨n,hn⟩:∃n:Nat,h.thrown=n:=⟨h.thrown.toNat,by omega⟩
 have kx:n<h.objs.length:=by omega
 have HN:Hid (h.thrown=n):=hn
 obtain ⟨gb,cap,mY,-,yE,hcc⟩:=kj H.obs (by omega)
 have NB:=(hcc n kx).1
 unfold maxLen at yE
 have VW:Hid (w.cell? ⟨gb,n*2,none⟩=some (int i64 (nth cB h.objs n).cls)):=NB
 have VX:Hid (vo=.slice (some ⟨gb,0,none⟩) h.objs.length cap):=mY
 have kv:(0:Int)<=(n:Int):=by omega
 have kg:(n:Int)<(h.objs.length:Int):=by omega
 have KF:Hid (∀x:Hd,h.fits x pc=(decide (x.fr<=pc)&&(decide (pc<x.til)&&(kU h.file.classes (nth cB h.objs n).cls x.cls&&fK h.file.classes (nth cB h.objs n).cls.toNat x.cls.toNat)))):=fun x=>by
  unfold Hp.fits Hp.obj gH;rw [hn,Int.toNat_natCast]
 have HM:Hid ((w.alloc (dH m P CC K pp c k)).cell? ⟨w.heap.size,7,none⟩=some (.slice K m.hands.length k)):=ak rfl
 clear H C hK ht hn hcc NB mY
 obtain ⟨R,hR⟩:∃R,h.caughtL pc m.hands=R:=⟨_,rfl⟩
 rw [hR]
 have HR:Hid (h.caughtL pc (m.hands.drop 0)=R):=by rw [List.drop_zero];exact hR
 clear hR
 generalize hX:(nth cB h.objs n).cls=X at *
 clear hX
 go_enter Tryz.func59,Tryz.ntmps59
 go_wp2
 go_loopw [7] (fun i wr=>∃q:Nat,q<=m.hands.length/\i=int i64 q/\Hid (Bl w wr)/\wr.cell? ⟨w.heap.size,7,none⟩=some (.slice K m.hands.length k)/\Hid (h.caughtL pc (m.hands.drop q)=R)) (fun i _=>m.hands.length-(intOf i).toNat)
 case atStart=>exact ⟨0,Nat.zero_le _,rfl,(Bl.refl w).alloc _,HM.out,HR⟩
 case round =>
  obtain ⟨q,hq,rfl,hg,c7,hr⟩:=hrel
  by_cases eR:q<m.hands.length
  ·have TQ:=HK.out.bl hg.out
   rcases TQ.2 with h0|⟨b',gj,RA,hcell⟩
   ·omega
   obtain ⟨g0,g1,g2,g3,-⟩:=hcell q eR
   rw [RA] at c7
   have HS:Hid (h.fits (nth eD m.hands q) pc=false->h.caughtL pc (m.hands.drop (q+1))=R):=fun hx=>(oP eR hx).symm.trans hr.out
   have HT:Hid (h.fits (nth eD m.hands q) pc=true->(nth eD m.hands q).pc=R):=fun hx=>(pU eR hx).symm.trans hr.out
   have hlt:=af (HA.out.old hg.out).blk
   have IL:Hid (∀o,cD w0 g (wr.alloc o) p h vo vx hv):=fun o=>HA.out.old (hg.out.alloc o)
   have q0:∀o,(wr.alloc o).cell? ⟨p,0,none⟩=some (.slice g.A h.file.classes.length g.a):=fun o=>(IL.out o).cells.c0
   have q2:∀o,(wr.alloc o).cell? ⟨p,2,none⟩=some (.slice (some ⟨gb,0,none⟩) h.objs.length cap):=fun o=>by rw [(IL.out o).cells.c2,VX.out]
   have Yf:∀o,(wr.alloc o).cell? ⟨p,13,none⟩=some (int i64 (n:Int)):=fun o=>by rw [(IL.out o).cells.c13,HN.out]
   have qo:∀o,(wr.alloc o).cell? ⟨gb,n*2,none⟩=some (int i64 X):=fun o=>(hg.out.alloc o).cell VW.out
   have q7:∀o,(wr.alloc o).cell? ⟨w.heap.size,7,none⟩=some (.slice K m.hands.length k):=fun o=>by rw [RA];exact ((Bl.refl wr).alloc o).cell c7
   have TR:Hid (∀o,ct (wr.alloc o) g.A h.file.classes):=fun o=>nu.out.bl (hg.out.alloc o)
   have HD:Hid (h.fits (nth eD m.hands q) pc=(decide ((nth eD m.hands q).fr<=pc)&&(decide (pc<(nth eD m.hands q).til)&&(kU h.file.classes X (nth eD m.hands q).cls&&fK h.file.classes X.toNat (nth eD m.hands q).cls.toNat)))):=KF.out _
   have RB:Hid (∀o,(wr.alloc o).cell? ⟨w.heap.size,7,none⟩=some (.slice K m.hands.length k)):=q7
   clear hcell TQ hr q7 RA
   generalize hY:nth eD m.hands q=Y at *
   clear hY
   by_cases t1:Y.fr<=pc
   ·have d1:decide (Y.fr<=pc)=true:=decide_eq_true t1
    by_cases t2:pc<Y.til
    ·have d2:decide (pc<Y.til)=true:=decide_eq_true t2
     obtain ⟨B,hB⟩:∃B,(kU h.file.classes X Y.cls&&fK h.file.classes X.toNat Y.cls.toNat)=B:=⟨_,rfl⟩
     have OJ:Hid (h.fits Y pc=B):=by rw [HD.out,d1,d2,hB];rfl
     cases B
     ·have Lc:=HS.out OJ.out
      have yJ:Hid (h.caughtL pc (m.hands.drop (q+1))=R):=Lc
      clear Lc
      go_wp2
      go_quiet ((go_at_call 110;exact Calls.quiet_of_same ((fO _ _ _ _ _ _ ((TR.out _).bl (aR (Bl.refl _) _)) HC.out.tree).mono fun e w' hh=>⟨hh.1.trans (aj hB),hh.2⟩)))
      go_wp2
      go_roundw
      case rel=>exact ⟨q+1,by omega,by go_num,aR (hg.out.alloc _) _,RB.out _,yJ⟩
      case measure=>simp [intOf];omega
     ·have mM:Hid (Y.pc=R):=HT.out OJ.out
      go_wp2
      go_quiet ((go_at_call 110;exact Calls.quiet_of_same ((fO _ _ _ _ _ _ ((TR.out _).bl (aR (Bl.refl _) _)) HC.out.tree).mono fun e w' hh=>⟨hh.1.trans (aj hB),hh.2⟩)))
      go_wp2
      go_ret
      exact ⟨lT mM.out,⟨vo,vx,hv,(IL.out _).drewN _⟩,(Fr.old cI (hg.out.alloc _)).drewN _⟩
    ·have d2:decide (pc<Y.til)=false:=decide_eq_false t2
     have yJ:Hid (h.caughtL pc (m.hands.drop (q+1))=R):=HS.out (by rw [HD.out,d2,Bool.false_and,Bool.and_false])
     go_wp2
     go_quiet (fail)
     go_wp2
     go_roundw
     case rel=>exact ⟨q+1,by omega,by go_num,aR (hg.out.alloc _) _,RB.out _,yJ⟩
     case measure=>simp [intOf];omega
   ·have d1:decide (Y.fr<=pc)=false:=decide_eq_false t1
    have yJ:Hid (h.caughtL pc (m.hands.drop (q+1))=R):=HS.out (by rw [HD.out,d1,Bool.false_and])
    go_wp2
    go_quiet (fail)
    go_wp2
    go_roundw
    case rel=>exact ⟨q+1,by omega,by go_num,aR (hg.out.alloc _) _,RB.out _,yJ⟩
    case measure=>simp [intOf];omega
  ·obtain rfl:q=m.hands.length:=by omega
   have HE:Hid (-1=R):=by have:=hr.out;rw [List.drop_length] at this;exact this
   go_wp2
   go_ret
   exact ⟨lT HE.out,⟨vo,vx,hv,HA.out.old hg.out⟩,Fr.old cI hg.out⟩
structure Ca where
 q:Nat
 lb:Nat
 lc:Nat
 P:Option Addr
 C:Option Addr
 K:Option Addr
 p:Nat
 c:Nat
 k:Nat
def ot (a:Ca) (c:aH) (A:Option Addr) (cap:Nat):Array Value :=
 #[.slice a.P c.m.params.length a.p,int i64 c.m.ret.kind,int i64 c.m.ret.cls,int i64 c.m.stack,int i64 c.m.locs,int i64 c.m.regs,.slice a.C c.m.code.length a.c,.slice a.K c.m.hands.length a.k,
  .slice (some ⟨a.lb,0,none⟩) c.locs.length a.lc,.slice A c.stk.length cap,int i64 c.pc]
def bG (lb:Nat) (w:World) (A:Option Addr) (l:List Va):Prop :=
 l.length=0∨∃b off cs f,A=some ⟨b,off,none⟩/\w.heap[b]?=some (.cells cs 62 f)/\b≠lb /\
  ∀i,i<l.length->cs[off+i*2]?=some (int i64 (nth ag l i).kind)/\cs[off+i*2+1]?=some (int i64 (nth ag l i).n)
structure bq (w0 w:World) (a:Ca) (c:aH) (A:Option Addr) (cap:Nat):Prop where
 own:w0.heap.size<=a.q
 ownl:w0.heap.size<=a.lb
 blk:w.heap[a.q]?=some (.cells (ot a c A cap) 113 (0,0))
 loc:cy w a.lb c.locs
 stk:bG a.lb w A c.stk
 me:kZ w0 c.m a.P a.C a.K
 cap:c.stk.length<=cap
def Cs (w0 w:World) (a:Ca) (c:aH):Prop:=∃A cap,bq w0 w a c A cap
structure Fq (B:Nat) (T:TypeId) (a:Ca) (w w':World):Prop where
 bl:Below B w w'
 keep:∀(b:Nat) (cs:Array Value) (t:TypeId) (f:Nat×Nat),w.heap[b]?=some (.cells cs t f)->¬jP T t->b≠a.q->b≠a.lb->w'.heap[b]?=some (.cells cs t f)
theorem Fr.fq {B:Nat} {T:TypeId} {a:Ca} {w w':World} (h:Fr B T w w'):Fq B T a w w':=⟨h.bl,fun b cs t f e n _ _=>h.keep b cs t f e n⟩
theorem Fq.refl (B:Nat) (T:TypeId) (a:Ca) (w:World):Fq B T a w w:=(Fr.refl B T w).fq
section
variable {B:Nat} {T:TypeId} {a:Ca} {x y z:World}
theorem Fq.trans (h:Fq B T a x y) (k:Fq B T a y z):Fq B T a x z :=
 ⟨h.bl.trans k.bl,fun b cs t f e n n1 n2=>k.keep b cs t f (h.keep b cs t f e n n1 n2) n n1 n2⟩
theorem Fq.fr (h:Fr B T x y) (k:Fq B T a y z) (hq:x.heap.size<=a.q) (hl:x.heap.size<=a.lb):Fr B T x z :=
 ⟨h.bl.trans k.bl,fun b cs t f e n=>k.keep b cs t f (h.keep b cs t f e n) n (by have:=af e;omega) (by have:=af e;omega)⟩
end
theorem bG.keep {lb:Nat} {w w':World} {A:Option Addr} {l:List Va} (h:bG lb w A l)
  (k:∀b cs f,w.heap[b]?=some (.cells cs 62 f)->b≠lb->w'.heap[b]?=some (.cells cs 62 f)):bG lb w' A l:=by
 rcases h with h|⟨b,off,cs,f,h1,h2,h3,h4⟩
 ·exact Or.inl h
 ·exact Or.inr ⟨b,off,cs,f,h1,k b cs f h2 h3,h3,h4⟩
theorem bG.fr {B lb:Nat} {T:TypeId} {w w':World} {A:Option Addr} {l:List Va} (h:bG lb w A l) (k:Tk T) (f:Fr B T w w'):bG lb w' A l :=
 h.keep fun b cs fz e _=>f.keep b cs _ fz e k.nv
theorem cy.frr {B:Nat} {T:TypeId} {w w':World} {b:Nat} {l:List Va} (h:cy w b l) (k:Tk T) (f:Fr B T w w'):cy w' b l:=⟨f.keep _ _ _ _ h.blk k.nv,h.len⟩
section
variable {B:Nat} {T:TypeId} {w0 w w':World} {a:Ca} {c:aH}
theorem bq.fr {A:Option Addr} {cap:Nat} (h:bq w0 w a c A cap) (k:Tk T) (f:Fr B T w w'):bq w0 w' a c A cap :=
 ⟨h.own,h.ownl,f.keep _ _ _ _ h.blk k.nc,h.loc.frr k f,h.stk.fr k f,h.me,h.cap⟩
theorem Cs.fr (h:Cs w0 w a c) (k:Tk T) (f:Fr B T w w'):Cs w0 w' a c:=by
 obtain ⟨A,cap,h⟩:=h
 exact ⟨A,cap,h.fr k f⟩
end
section
variable {lb:Nat} {w:World} {A:Option Addr} {l:List Va}
theorem bG.vas (h:bG lb w A l) (hm:l.length<=maxLen):wS w A l:=by
 refine ⟨hm,?_⟩
 rcases h with h|⟨b,off,cs,f,h1,h2,h3,h4⟩
 ·exact Or.inl h
 ·exact Or.inr ⟨b,off,h1,fun i hi=>⟨(aa h2).trans (h4 i hi).1,(aa h2).trans (h4 i hi).2⟩⟩
theorem bG.take (h:bG lb w A l) (n:Nat):bG lb w A (l.take n):=by
 rcases h with h|⟨b,off,cs,f,h1,h2,h3,h4⟩
 ·left;rw [List.length_take];omega
 ·refine Or.inr ⟨b,off,cs,f,h1,h2,h3,fun i hi=>?_⟩
  simp only [List.length_take] at hi
  rw [DP (by omega)]
  exact h4 i (by omega)
end
theorem bG.drop {lb:Nat} {w:World} {b off:Nat} {l:List Va} (h:bG lb w (some ⟨b,off,none⟩) l) (n:Nat):bG lb w (some ⟨b,off+n*2,none⟩) (l.drop n):=by
 rcases h with h|⟨b',gj,cs,f,h1,h2,h3,h4⟩
 ·left;rw [List.length_drop];omega
 ·simp only [Option.some.injEq,Addr.mk.injEq] at h1
  obtain ⟨rfl,rfl,-⟩:=h1
  refine Or.inr ⟨b,off+n*2,cs,f,rfl,h2,h3,fun i hi=>?_⟩
  simp only [List.length_drop] at hi
  rw [vU]
  have:=h4 (n+i) (by omega)
  have e1:off+n*2+i*2=off+(n+i)*2:=by omega
  have e2:off+n*2+i*2+1=off+(n+i)*2+1:=by omega
  rw [e1]
  exact this
structure EN (w:World) (a:Ca) (c:aH) (A:Option Addr) (cap:Nat):Prop where
 c0:w.cell? ⟨a.q,0,none⟩=some (.slice a.P c.m.params.length a.p)
 c1:w.cell? ⟨a.q,1,none⟩=some (int i64 c.m.ret.kind)
 c2:w.cell? ⟨a.q,2,none⟩=some (int i64 c.m.ret.cls)
 c3:w.cell? ⟨a.q,3,none⟩=some (int i64 c.m.stack)
 c4:w.cell? ⟨a.q,4,none⟩=some (int i64 c.m.locs)
 c5:w.cell? ⟨a.q,5,none⟩=some (int i64 c.m.regs)
 c6:w.cell? ⟨a.q,6,none⟩=some (.slice a.C c.m.code.length a.c)
 c7:w.cell? ⟨a.q,7,none⟩=some (.slice a.K c.m.hands.length a.k)
 c8:w.cell? ⟨a.q,8,none⟩=some (.slice (some ⟨a.lb,0,none⟩) c.locs.length a.lc)
 c9:w.cell? ⟨a.q,9,none⟩=some (.slice A c.stk.length cap)
 c10:w.cell? ⟨a.q,10,none⟩=some (int i64 c.pc)
section
variable {w0 w:World} {a:Ca} {c:aH} {A:Option Addr} {cap:Nat}
theorem bq.cells (H:bq w0 w a c A cap):EN w a c A cap:=by
 constructor<;>(rw [aa H.blk];rfl)
theorem bq.free (H:bq w0 w a c A cap) (i:Nat):w.frozen? ⟨a.q,i,none⟩=false:=ay H.blk i
theorem bq.apart (H:bq w0 w a c A cap):a.lb≠a.q:=by
 intro h
 have h1:=H.loc.blk
 rw [h,H.blk] at h1
 simp at h1
theorem bq.setStk (H:bq w0 w a c A cap) {A':Option Addr} {cap':Nat} {l:List Va} (h:bG a.lb w A' l) (hc:l.length<=cap') :
  bq w0 (w.setCell ⟨a.q,9,none⟩ (.slice A' l.length cap')) a { c with stk:=l } A' cap':=by
 refine ⟨H.own,H.ownl,by rw [ax H.blk];rfl,⟨?_,H.loc.len⟩,?_,H.me,hc⟩
 ·rw [aA H.apart];exact H.loc.blk
 ·refine h.keep fun b cs f e n=>?_
  rw [aA]
  ·exact e
  ·rintro rfl;rw [H.blk] at e;simp at e
theorem bq.setPc (H:bq w0 w a c A cap) (n:Int) :
  bq w0 (w.setCell ⟨a.q,10,none⟩ (int i64 n)) a { c with pc:=n } A cap:=by
 refine ⟨H.own,H.ownl,by rw [ax H.blk];rfl,⟨?_,H.loc.len⟩,?_,H.me,H.cap⟩
 ·rw [aA H.apart];exact H.loc.blk
 ·refine H.stk.keep fun b cs f e n=>?_
  rw [aA]
  ·exact e
  ·rintro rfl;rw [H.blk] at e;simp at e
end
theorem bq.cf {T:TypeId} {w0 w:World} {a:Ca} {c:aH} {A:Option Addr} {cap:Nat} (H:bq w0 w a c A cap) (k:Tk T) (i:Nat) (v:Value):Cf w0.heap.size T w (w.setCell ⟨a.q,i,none⟩ v) :=
 (Cf.refl _ _ w).set H.blk k.nc H.own v
section
variable {w0 w:World}
theorem bq.fq {a:Ca} {c:aH} {A:Option Addr} {cap:Nat} (H:bq w0 w a c A cap) (T:TypeId) (i:Nat) (v:Value):Fq w0.heap.size T a w (w.setCell ⟨a.q,i,none⟩ v) :=
 ⟨(Below.refl _ w).setCell H.own v,fun b cs t f e n n1 n2=>by rw [aA n1];exact e⟩
theorem eM.cf {w':World} {T:TypeId} {b:Nat} {l:List Va} (h:eM b w w') (k:Tk T) (hL:cy w b l) (hb:w0.heap.size<=b) (hs:w0.heap.size<=w.heap.size):Cf w0.heap.size T w w' :=
 ⟨⟨h.os,h.tape,h.output,h.size,fun i hi=>h.block i (by omega) (by omega)⟩,fun i cs t f e n=>by
  have hi:=af e
  rw [h.block i hi]
  ·exact e
  ·rintro rfl;rw [hL.blk] at e;simp at e;exact k.nv (e.2.1▸n)⟩
theorem eM.fq {w':World} {a:Ca} {T:TypeId} (h:eM a.lb w w') (hb:w0.heap.size<=a.lb) (hs:w0.heap.size<=w.heap.size):Fq w0.heap.size T a w w' :=
 ⟨⟨h.os,h.tape,h.output,h.size,fun i hi=>h.block i (by omega) (by omega)⟩,fun i cs t f e n n1 n2=>by rw [h.block i (af e) n2];exact e⟩
theorem bq.setLoc {w':World} {a:Ca} {c:aH} {A:Option Addr} {cap:Nat} (H:bq w0 w a c A cap) (h:eM a.lb w w') {l:List Va} (hl:cy w' a.lb l) (hn:l.length=c.locs.length) :
  bq w0 w' a { c with locs:=l } A cap:=by
 refine ⟨H.own,H.ownl,?_,hl,?_,H.me,H.cap⟩
 ·rw [h.block _ (af H.blk) (Ne.symm H.apart),H.blk]
  simp only [ot,hn]
 ·exact H.stk.keep fun b cs f e n=>by rw [h.block _ (af e) n];exact e
end
theorem kJ (h:Hp) (ho:h.over=false) (b:Bool):h.mustB b=b:=by unfold Hp.mustB;rw [ho];simp
theorem nP:(Tryz.prog.info? 62).map (fun i=>(i.zero,i.size,i.bytes))=some (some (.agg #[int i64 0,int i64 0]),2,16):=by kernel_rfl
theorem EO:∀(k j:Nat),j<k*2->(aL (List.replicate k ag))[j]?=some (int i64 0)
 | 0,j,h=>by omega
 | k+1,0,_=>by rw [List.replicate_succ];rfl
 | k+1,1,_=>by rw [List.replicate_succ];rfl
 | k+1,j+2,h=>by
  rw [List.replicate_succ]
  show (aL (List.replicate k ag))[j]?=_
  exact EO k j (by omega)
theorem I5 (k:Nat):madeCells #[int i64 0,int i64 0] (k*2)=(aL (List.replicate k ag)).toArray:=by
 apply Array.ext_getElem?
 intro j
 by_cases hj:j<k*2
 ·have h2:=EO k j hj
  simp only [List.getElem?_toArray,h2]
  unfold madeCells
  have hm:j%2=0∨j%2=1:=by omega
  rcases hm with hm|hm<;>simp [hj,hm]
 ·rw [Array.getElem?_eq_none (by rw [size_madeCells];omega),Array.getElem?_eq_none (by simp [eF];omega)]
theorem zu (n:Nat) (hn:n<=1000000) (u:World):(Instr.makeSlice 58 (int i64 (n:Int)) (int i64 (n:Int))).run Tryz.prog u=.ok (.slice (some ⟨u.heap.size,0,none⟩) n n) (u.alloc (.cells (aL (List.replicate n ag)).toArray 62)):=by
 obtain ⟨i,hi,hz,hs,hb⟩:=info_parts nP
 have h:=run_make u 58 62 i _ Tryz.underlying58 hi hz .i64 .i64 (n:Int) (n:Int) (by omega) (Int.le_refl _) (by rw [hb];omega) (by omega)
 rw [hs] at h
 simp only [Int.toNat_natCast] at h
 rw [<-I5]
 exact h
theorem cy.new (w:World) (l:List Va) (hl:l.length<=maxLen):cy (w.alloc (.cells (aL l).toArray 62)) w.heap.size l:=⟨aD _ _ _,hl⟩
theorem cy.stk {w:World} {b lb:Nat} {l:List Va} (h:cy w b l) (hb:b≠lb):bG lb w (some ⟨b,0,none⟩) l :=
 Or.inr ⟨b,0,_,_,rfl,h.blk,hb,fun i hi=>by
  have:=fL l i hi
  simpa using this⟩
def pH (w0:World) (g:Ad) (p:Nat) (a:Ca) (A:Option Addr) (w:World) (many:Nat) (h:Hp) (c:aH) (l:List Va) (same:Bool) (e:Ending) (w':World):Prop :=
 ∃A1 cW bd,e=.returned (.slice A1 many cW)/\bG a.lb w' A1 l/\Hs w0 g w' p h/\bq w0 w' a c A bd/\Fq w0.heap.size g.T a w w'/\(same=true->∀x y,A=some x->A1=some y->y.block=x.block)
section
variable (w0:World) (g:Ad)
theorem bP (k:Tk g.T) (p:Nat) (h:Hp) (a:Ca) (c:aH) (many:Nat) (w:World) (A:Option Addr) (cap:Nat) (hH:Hs w0 g w p h) (H:bq w0 w a c A cap) (ho:h.over=false) (hm:many<=c.stk.length) (hs:c.stk.length<=1000) :
  Calls Tryz.prog 56 #[.pointer (some ⟨p,0,none⟩),.pointer (some ⟨a.q,0,none⟩),int i64 (many:Int)] w fun e w' =>
   pH w0 g p a A w many h (c.cut many) (c.top many) true e w':=by
 have HC:Hid (bq w0 w a c A cap):=H
 have HH:Hid (Hs w0 g w p h):=hH
 have c9:=H.cells.c9
 have f9:=H.free 9
 have mJ:=H.cap
 have EM:(!h.over)=true:=by rw [ho];rfl
 obtain ⟨n,hn⟩:∃n,c.stk.length=n+many:=⟨c.stk.length-many,by omega⟩
 have e1:c.top many=c.stk.drop n:=by unfold aH.top;rw [if_pos hm];congr 1;omega
 have e2:c.cut many={ c with stk:=c.stk.take n }:=by unfold aH.cut;rw [if_pos hm];congr 2;omega
 rw [e1,e2]
 clear e1 e2 H hH hm
 have hlt:(c.stk.take n).length=n:=by simp;omega
 have RC:(c.stk.drop n).length=many:=by simp;omega
 have HS:Hid (bG a.lb w A c.stk):=HC.out.stk
 have HN:Hid (c.stk.length=n+many):=hn
 rw [hn] at c9 hs mJ
 clear hn
 go_enter Tryz.func56,Tryz.ntmps56
 go_wp2_with (go_at_call 55;refine (dj w0 g p h _ HH.out).mono ?_;rintro e w1 ⟨he,hw1⟩;rw [EM] at he;subst he;subst hw1)
 ·go_ret
  refine ⟨A,_,n,rfl,Or.inl (by omega),HH.out.cf (HC.out.cf k 9 _),?_,HC.out.fq _ 9 _,fun _ x y h1 h2=>by rw [h1] at h2;simp at h2;rw [h2]⟩
  have hx:=HC.out.setStk (cap':=n) (HS.out.take n) (by omega)
  rw [hlt] at hx
  exact hx
 ·go_ret
  refine ⟨_,_,cap,rfl,?_,HH.out.cf (HC.out.cf k 9 _),?_,HC.out.fq _ 9 _,fun _ x y h1 h2=>by subst h1;simp at h2;rw [<-h2];unfold Addr.add;split<;>rfl⟩
  ·rcases HS.out with h0|⟨b,off,cs,f,rfl,-⟩
   ·exact Or.inl (by rw [RC];have:=HN.out;omega)
   ·have e:(⟨b,off,none⟩:Addr).add (n*2)=⟨b,off+n*2,none⟩:=by simp [Addr.add]
    have hx:=HC.out.setStk (cap':=cap) (HS.out.take n) (by omega)
    rw [hlt] at hx
    have hy:=HS.out.drop n
    show bG a.lb _ (some ((⟨b,off,none⟩:Addr).add (n*2))) _
    rw [e]
    refine hy.keep fun b' cs' f' e' n'=>?_
    rw [aA]
    ·exact e'
    ·rintro rfl;rw [HC.out.blk] at e';simp at e'
  ·have hx:=HC.out.setStk (cap':=cap) (HS.out.take n) (by omega)
   rw [hlt] at hx
   exact hx
set_option maxRecDepth 10000 in
theorem dK (k:Tk g.T) (p:Nat) (h:Hp) (a:Ca) (c:aH) (many:Nat) (w:World) (A:Option Addr) (cap:Nat) (hH:Hs w0 g w p h) (H:bq w0 w a c A cap) (ho:h.over=false) (hm:c.stk.length<many) (hs:many<=4) :
  Calls Tryz.prog 56 #[.pointer (some ⟨p,0,none⟩),.pointer (some ⟨a.q,0,none⟩),int i64 (many:Int)] w fun e w' =>
   pH w0 g p a A w many (h.fin 6) c (List.replicate many ag) false e w':=by
 have HC:Hid (bq w0 w a c A cap):=H
 have HH:Hid (Hs w0 g w p h):=hH
 have c9:=H.cells.c9
 have mJ:=H.cap
 have rS:Hid (h.must false=h.fin 6):=rfl
 have RD:Hid (h.mustB false=false):=rfl
 clear H hH ho
 generalize hL:c.stk.length=L at c9 hm mJ
 clear hL
 have hd:decide (many<=L)=false:=decide_eq_false (by omega)
 have KP:=zu many (by omega)
 go_enter Tryz.func56,Tryz.ntmps56
 go_wp2_with (go_at_call 55;refine (bk w0 g k p h false _ HH.out).mono ?_;rintro e w1 ⟨he,h1,f1⟩;rw [RD.out] at he;subst he;rw [rS.out] at h1)
 go_ret
 have cI:=h1.base
 have RE:a.lb<w1.heap.size:=af (HC.out.fr k f1).loc.blk
 have F:Fr w0.heap.size g.T w1 (w1.alloc (.cells (aL (List.replicate many ag)).toArray 62)):=(Fr.refl _ _ _).alloc cI _
 exact ⟨_,_,cap,rfl,(cy.new w1 (List.replicate many ag) (by unfold maxLen;simp;omega)).stk (by omega),h1.cf ((Cf.refl _ _ _).alloc cI _),(HC.out.fr k f1).fr k F,(f1.trans F).fq,fun h=>by simp at h⟩
theorem EP (k:Tk g.T) (p:Nat) (h:Hp) (a:Ca) (c:aH) (many:Nat) (w:World) (A:Option Addr) (cap:Nat) (hH:Hs w0 g w p h) (H:bq w0 w a c A cap) (ho:h.over=false) (hm:many<=4) (hs:c.stk.length<=1000) :
  Calls Tryz.prog 56 #[.pointer (some ⟨p,0,none⟩),.pointer (some ⟨a.q,0,none⟩),int i64 (many:Int)] w fun e w' =>
   pH w0 g p a A w many (h.must (c.has many)) (c.cut many) (c.top many) (c.has many) e w':=by
 by_cases hl:many<=c.stk.length
 ·have e:h.must (c.has many)=h:=by unfold Hp.must;rw [if_pos (yj hl)]
  rw [e,yj hl]
  exact bP w0 g k p h a c many w A cap hH H ho hl hs
 ·have e:h.must (c.has many)=h.fin 6:=by unfold Hp.must aH.has;rw [if_neg (by simpa using hl)]
  have e1:c.top many=List.replicate many ag:=by unfold aH.top;rw [if_neg hl]
  have e2:c.cut many=c:=by unfold aH.cut;rw [if_neg hl]
  have e3:c.has many=false:=by unfold aH.has;exact decide_eq_false hl
  rw [e,e1,e2,e3]
  exact dK w0 g k p h a c many w A cap hH H ho (by omega) hm
end
theorem bG.news {lb:Nat} {w:World} {b off:Nat} {l:List Va} (h:bG lb w (some ⟨b,off,none⟩) l) (hl:0<l.length):∀j u,(aL l)[j]?=some u->w.cell? ((⟨b,off,none⟩:Addr).add j)=some u:=by
 rcases h with h|⟨b',gj,cs,f,h1,h2,h3,h4⟩
 ·omega
 simp only [Option.some.injEq,Addr.mk.injEq] at h1
 obtain ⟨rfl,rfl,-⟩:=h1
 intro j u hu
 have hj:j<l.length*2:=by
  rw [<-eF]
  exact (List.getElem?_eq_some_iff.mp hu).1
 have e:(⟨b,off,none⟩:Addr).add j=⟨b,off+j,none⟩:=by simp [Addr.add]
 rw [e,aa h2]
 have hx:=fL l (j/2) (by omega)
 have hy:=h4 (j/2) (by omega)
 have hm:j=j/2*2∨j=j/2*2+1:=by omega
 rcases hm with hm|hm
 ·have e2:off+j=off+j/2*2:=by omega
  rw [hm,hx.1] at hu
  rw [e2,hy.1];exact hu
 ·have e2:off+j=off+j/2*2+1:=by omega
  rw [hm,hx.2] at hu
  rw [e2,hy.2];exact hu
theorem BU {ops:Array Oper} {o:Oper} {a:Act} {W:World} {K:Act->World->Prop} {Q:Exit->Act->World->Prop} {E:Prop} (hgd:o.guard=none) (s x:Operand)
  (ho:o.op=.call { callee:=.builtin .append,args:=#[s,x],argTypes:=#[58,58] })
  (base B:Nat) (hs:a.eval s=.slice (some ⟨B,0,none⟩) 0 0) (hB:W.heap[B]?=some (.cells #[] 62 (0,0))) (hb:base<=B)
  (A:Option Addr) (n cap lb:Nat) (l:List Va) (hx:a.eval x=.slice A n cap) (hn:l.length=n) (hst:bG lb W A l) (hl:n<=1000)
  (h:∀v' w',w'.ownsRow base 62 2 v' n (aL l)->W.grownBy w' (some B)->v'.ownBlock=some B∨v'.ownBlock=some W.heap.size->K (a.put o.dst v') w') :
  if Region.wanted o (yielded ops a.tmps)=true then Oper.wp Tryz.prog o a W K Q else E:=by
 obtain ⟨i,hi,hz,hsz,m8⟩:=info_parts nP
 have hw:Region.wanted o (yielded ops a.tmps)=true:=by simp [Region.wanted,hgd]
 rw [if_pos hw]
 have VY:=af hB
 have fY:W.ownsRow base 62 2 (.slice (some ⟨B,0,none⟩) 0 0) 0 []:=⟨rfl,Or.inr ⟨B,0,#[],rfl,hb,hB,Nat.le_refl _,by unfold maxLen;omega,rfl,rfl⟩⟩
 by_cases h0:n=0
 ·have gJ:l=[]:=List.eq_nil_of_length_eq_zero (by omega)
  subst gJ
  subst h0
  have RF:Src Tryz.prog i.size 58 (.slice A 0 cap) 0 [] W:=by
   cases A with
   | none=>exact Src.ofNil W Tryz.underlying58 cap
   | some ad=>exact Src.ofSlice W Tryz.underlying58 ad 0 cap [] (by simp) (by simp) (by simp)
  have hr:=run_append_nothing (P:=Tryz.prog) W 58 58 o.type 62 i Tryz.underlying58 hi (some ⟨B,0,none⟩) 0 0 (Nat.le_refl _) (.slice A 0 cap) RF
  unfold Oper.wp execOp
  simp only [ho,resolve,invoke,builtin,Sem.run_bind,Sem.run_pure,Result.andThen_ok,List.map_toArray,List.map_cons,List.map_nil,hs,hx,hr]
  exact h _ _ fY ⟨rfl,rfl,rfl,Nat.le_refl _,fun _ _ _=>rfl⟩ (Or.inl rfl)
 ·rcases hst with h1|⟨b,off,cs,f,rfl,h2,h3,h4⟩
  ·omega
  obtain ⟨v',w',hr,o1,o2,-,o3⟩:=run_append_own_at (P:=Tryz.prog) W base 58 o.type 62 i _ 2 16 Tryz.underlying58 hi hz hsz m8 rfl (by omega)
   (.slice (some ⟨B,0,none⟩) 0 0) 0 [] fY ⟨b,off,none⟩ n cap (aL l) (by rw [eF,hn])
   (bG.news (Or.inr ⟨b,off,cs,f,rfl,h2,h3,h4⟩:bG lb W (some ⟨b,off,none⟩) l) (by omega)) (oM l) (by unfold maxLen;omega) (by omega) (by omega)
  unfold Oper.wp execOp
  simp only [ho,resolve,invoke,builtin,Sem.run_bind,Sem.run_pure,Result.andThen_ok,List.map_toArray,List.map_cons,List.map_nil,hs,hx,hr]
  exact h _ _ (by simpa using o1) o2 o3
theorem cd {w:World} {b:Nat} {cs:Array Value} {t:TypeId} (hb:b=w.heap.size):(w.alloc (.cells cs t)).heap[b]?=some (.cells cs t (0,0)):=by subst hb;exact aD _ _ _
theorem iG {w:World} {b:Nat} {o o':Obj} (hb:b<w.heap.size) (h:w.heap[b]?=some o):(w.alloc o').heap[b]?=some o:=(Below.heap_alloc _ _ _ hb).trans h
theorem nQ {W0 W w1:World} (h:Bl W0 W) {row:Option Nat} (hg:W.grownBy w1 row) (hr:∀k,row=some k->W0.heap.size<=k):Bl W0 w1:=Below.grown h hg h.size hr
theorem Hs.old {w0 w w':World} {g:Ad} {p:Nat} {h:Hp} (H:Hs w0 g w p h) (hb:Bl w w'):Hs w0 g w' p h:=by
 obtain ⟨vo,vx,hv,H⟩:=H
 exact ⟨vo,vx,hv,H.old hb⟩
theorem bq.old {w0 w w':World} {a:Ca} {c:aH} {A:Option Addr} {cap:Nat} (h:bq w0 w a c A cap) (hb:Bl w w'):bq w0 w' a c A cap :=
 ⟨h.own,h.ownl,(hb.block _ (af h.blk)).trans h.blk,⟨(hb.block _ (af h.loc.blk)).trans h.loc.blk,h.loc.len⟩,h.stk.keep fun b cs f e _=>(hb.block _ (af e)).trans e,h.me,h.cap⟩
theorem Aa {w:World} {base lb n:Nat} {b cap:Nat} {l:List Va} (h:w.ownsRow base 62 2 (.slice (some ⟨b,0,none⟩) n cap) n (aL l)) (hl:lb<base) (hn:n=l.length):bG lb w (some ⟨b,0,none⟩) l/\l.length<=cap:=by
 subst hn
 rcases h.2 with ⟨h1,h2⟩|⟨gb,cp,cur,h1,h2,h3,h4,h5,h6,h7⟩
 ·simp at h1
 ·simp at h1
  obtain ⟨rfl,rfl⟩:=h1
  refine ⟨Or.inr ⟨b,0,cur,(0,0),rfl,h3,by omega,fun i hi=>?_⟩,h4⟩
  have hv:=fL l i hi
  rw [<-h7] at hv
  rw [List.getElem?_take,if_pos (by omega),List.getElem?_take,if_pos (by omega)] at hv
  simpa using hv
theorem tL (A:Option Addr) (c n:Nat) (l:List Va) (w:World) (hl:wS w A l) (hb:l.length<=1000000) (hn:n=l.length) :
  Calls Tryz.prog 53 #[.slice A n c] w fun e w'=>e=.returned (int i64 (aQ l:Nat))/\w'=w:=by
 subst hn
 exact EL A c l w hl hb
theorem ER {w0:World} {g:Ad} (k:Tk g.T) {p:Nat} {h:Hp} {a:Ca} {c:aH} {v:Va} {w w2:World} {A:Option Addr} {cap gg bd:Nat} (HH:Hs w0 g (w.alloc (cT v)) p h) (HC:bq w0 (w.alloc (cT v)) a c A cap) (RE:a.lb<w.heap.size) (cI:w0.heap.size<=w.heap.size)
  (hb:Bl (w.alloc (cT v)) w2) (ho:w2.ownsRow (w.heap.size+1) 62 2 (.slice (some ⟨gg,0,none⟩) (c.stk.length+1) bd) (c.stk.length+1) (aL c.stk++[int i64 v.kind,int i64 v.n])) :
  bq w0 (w2.setCell ⟨a.q,9,none⟩ (.slice (some ⟨gg,0,none⟩) (c.stk.length+1) bd)) a (c.put v) (some ⟨gg,0,none⟩) bd /\
  Hs w0 g (w2.setCell ⟨a.q,9,none⟩ (.slice (some ⟨gg,0,none⟩) (c.stk.length+1) bd)) p h /\
  Fq w0.heap.size g.T a w (w2.setCell ⟨a.q,9,none⟩ (.slice (some ⟨gg,0,none⟩) (c.stk.length+1) bd)):=by
 have e:aL c.stk++[int i64 v.kind,int i64 v.n]=aL (c.stk++[v]):=by rw [fe];rfl
 rw [e] at ho
 obtain ⟨hs,hc⟩:=Aa ho (lb:=a.lb) (by omega) (by simp)
 have H2:=HC.old hb
 have h1:=H2.setStk hs hc
 have el:(c.stk++[v]).length=c.stk.length+1:=by simp
 rw [el] at h1
 refine ⟨h1,(HH.old hb).cf (H2.cf k 9 _),Fq.trans (Fr.fq ?_) (H2.fq _ 9 _)⟩
 exact Fr.old cI (Bl.trans ((Bl.refl w).alloc _) hb)
theorem km (w0:World) (g:Ad) (k:Tk g.T) (p:Nat) (h:Hp) (a:Ca) (c:aH) (v:Va) (w:World) (hH:Hs w0 g w p h) (hC:Cs w0 w a c) (hs:c.stk.length<=1000) :
  Calls Tryz.prog 60 #[.pointer (some ⟨p,0,none⟩),.pointer (some ⟨a.q,0,none⟩),iE v] w fun e w' =>
   e=.returned (.tuple #[])/\Hs w0 g w' p (h.putH c v)/\Cs w0 w' a (c.put v)/\Fq w0.heap.size g.T a w w':=by
 have cI:=hH.base
 have HF:Hid (Fr w0.heap.size g.T w (w.alloc (cT v))):=(Fr.refl _ _ w).alloc cI _
 have HH:Hid (Hs w0 g (w.alloc (cT v)) p h):=hH.cf ((Cf.refl _ _ w).alloc cI _)
 have HV:Hid (aP (w.alloc (cT v)) w.heap.size v):=aP.new w v
 obtain ⟨A,cap,H0⟩:=hC
 have cV:a.q<w.heap.size:=af H0.blk
 have RE:a.lb<w.heap.size:=af H0.loc.blk
 have H:=H0.fr k HF.out
 have HC:Hid (bq w0 (w.alloc (cT v)) a c A cap):=H
 have c9:=H.cells.c9
 have f9:=H.free 9
 have v0:=HV.out.c0
 have v1:=HV.out.c1
 clear H hH H0
 obtain ⟨i0,th,sj,tj,tl⟩:=info_parts nP
 have hsz:(w.alloc (cT v)).heap.size=w.heap.size+1:=by simp
 have k1:a.q<w.heap.size+1:=by omega
 have k2:a.q<w.heap.size+1+1:=by omega
 have k3:a.q<w.heap.size+1+1+1:=by omega
 go_enter Tryz.func60,Tryz.ntmps60
 go_wp2
 have HS:Hid (∀W,Bl (w.alloc (cT v)) W->bG a.lb W A c.stk):=fun W hb=>HC.out.stk.keep fun b cs f e _=>(hb.block _ (af e)).trans e
 have HQ:Hid (∀W,Bl (w.alloc (cT v)) W->W.cell? ⟨a.q,9,none⟩=some (.slice A c.stk.length cap)/\W.frozen? ⟨a.q,9,none⟩=false/\W.cell? ⟨w.heap.size,0,none⟩=some (int i64 v.kind)/\W.cell? ⟨w.heap.size,1,none⟩=some (int i64 v.n)) :=
  fun W hb=>⟨hb.cell HC.out.cells.c9,(Below.frozen hb (p:=⟨a.q,9,none⟩) (by simp;omega)).trans (HC.out.free 9),hb.cell HV.out.c0,hb.cell HV.out.c1⟩
 go_region_law (first
  | (refine BU rfl _ _ rfl (w.heap.size+1) _ rfl (by first|exact cd (by simp)|exact iG (by simp) (cd (by simp))) (by simp) A c.stk.length cap a.lb c.stk rfl rfl (HS.out _ (by repeat (first|exact Bl.refl _|refine Bl.alloc ?_ _|refine Bl.drew ?_))) hs ?_;intro v1 w1 OK iL OL;have hb1:Bl (w.alloc (cT v)) w1:=(nQ (by repeat (first|exact Bl.refl _|refine Bl.alloc ?_ _|refine Bl.drew ?_)) iL (by intro k hk;simp at hk;rw [hsz];omega));have Hv:∀k,v1.ownBlock=some k->w.heap.size+1<=k:=(by intro k hk;rw [hk] at OL;simp at OL;omega);obtain ⟨q9,z9,r0,r1⟩:=HQ.out w1 hb1)
  | (refine step_append_lies _ rfl _ _ _ rfl (w.heap.size+1) 62 i0 _ 2 16 Tryz.underlying58 th sj tj tl rfl (by omega) v1 c.stk.length (aL c.stk) rfl (by first|exact OK|exact OK.alloc _) _ 1 1 [int i64 v.kind,int i64 v.n] rfl rfl (World.news_of_block (cs:=#[int i64 v.kind,int i64 v.n]) (t:=62) (fr:=(0,0)) (by first|exact cd rfl|(rw [iL.block _ (by simp) (by simp)];first|exact cd (by simp)|exact iG (by simp) (cd (by simp))))) (by simp [Value.oneCell']) (by omega) (by unfold maxLen;omega) (by omega) (by have:=hb1.size;rw [hsz] at this;simp;omega) _ rfl ?_;intro gg bd w2 OM bL hat hlt;have dB:Bl (w.alloc (cT v)) w2:=(nQ (by first|exact hb1|exact hb1.alloc _) bL (by rw [hsz];exact Hv));obtain ⟨p9,y9,-,-⟩:=HQ.out w2 dB))
 all_goals
  obtain ⟨RG,TS,EG⟩:=ER k HH.out HC.out RE cI dB OM
  have I6:Hid (bq w0 (w2.setCell ⟨a.q,9,none⟩ (.slice (some ⟨gg,0,none⟩) (c.stk.length+1) bd)) a (c.put v) (some ⟨gg,0,none⟩) bd):=RG
  have I7:Hid (Hs w0 g (w2.setCell ⟨a.q,9,none⟩ (.slice (some ⟨gg,0,none⟩) (c.stk.length+1) bd)) p h):=TS
  have OO:Hid (Fq w0.heap.size g.T a w (w2.setCell ⟨a.q,9,none⟩ (.slice (some ⟨gg,0,none⟩) (c.stk.length+1) bd))):=EG
  have s3:=RG.cells.c3
  have TU:(c.put v).m.stack=c.m.stack:=rfl
  rw [TU] at s3
  clear TU RG TS EG OM bL hat hlt
  cases hst:h.stops
  ·go_wp2_with (first
    | (go_at_call 53;refine (tL _ _ _ (c.stk++[v]) _ (I6.out.stk.vas (by unfold maxLen;simp [aH.put];omega)) (by simp;omega) (by simp)).mono ?_;rintro e w3 ⟨rfl,lH⟩;rw [lH];clear lH w3)
    | (go_at_call 112;refine (gQ w0 g p h _ I7.out).mono ?_;rintro e w4 ⟨he,sF⟩;rw [hst] at he;subst he;rw [sF];clear sF w4)
    | (go_at_call 55;refine (bk w0 g k p h _ _ I7.out).mono ?_;rintro e w5 ⟨rfl,h5,f5⟩))
   go_end0
   refine ⟨rfl,?_,⟨_,_,I6.out.fr k f5⟩,OO.out.trans f5.fq⟩
   have hr:h.putH c v=h.must (decide ((aQ (c.stk++[v]):Int)<=c.m.stack)):=by unfold Hp.putH;rw [if_neg (by rw [hst];decide)]
   rw [hr]
   exact h5
  ·go_wp2_with (first
    | (go_at_call 53;refine (tL _ _ _ (c.stk++[v]) _ (I6.out.stk.vas (by unfold maxLen;simp [aH.put];omega)) (by simp;omega) (by simp)).mono ?_;rintro e w3 ⟨rfl,lH⟩;rw [lH];clear lH w3)
    | (go_at_call 112;refine (gQ w0 g p h _ I7.out).mono ?_;rintro e w4 ⟨he,sF⟩;rw [hst] at he;subst he;rw [sF];clear sF w4))
   go_end0
   have hr:h.putH c v=h:=by unfold Hp.putH;rw [if_pos hst]
   rw [hr]
   exact ⟨rfl,I7.out,⟨_,_,I6.out⟩,OO.out⟩
theorem bt {P:Program} {md:Region.Mode} {ops:Array Oper} {Q:Exit->Act->World->Prop} {S:World->Prop} {i:Nat} {oi:Oper} {d:Option Tmp} {fuel:Nat} {listed:Array Bool} {a:Act} {w:World} (hi:ops[i]?=some oi) (hd:oi.dst=d)
  (hs:Region.noSelect ops=true) (hf:Region.free md ops listed i=true) (hr:(Region.ready md ops listed).contains i=true)
  (hQ:∀c a w,Q (.panic c) (a.put oi.dst undef) w->Q (.panic c) a w) (hw:Region.wanted oi (yielded ops a.tmps)=false) (hS:S w)
  (h:wpAnyH P md ops Q S fuel (listed.setIfInBounds i true) (a.put d undef) w):wpAnyH P md ops Q S (fuel+1) listed a w :=
 wpAnyH_take hi hs hf hr hQ (Or.inr ⟨hw,rfl⟩) hS (hd▸h)
theorem bR {P:Program} {md:Region.Mode} {ops:Array Oper} {Q:Exit->Act->World->Prop} {S:World->Prop} {i:Nat} {oi:Oper} {d:Option Tmp} {v:Value} {fuel:Nat} {listed:Array Bool} {a:Act} {w:World} (hi:ops[i]?=some oi) (hd:oi.dst=d)
  (hs:Region.noSelect ops=true) (hf:Region.free md ops listed i=true) (hr:(Region.ready md ops listed).contains i=true)
  (hQ:∀c a w,Q (.panic c) (a.put oi.dst v) w->Q (.panic c) a w) (hw:Region.wanted oi (yielded ops a.tmps)=true) (hy:∀w,S w->(execOp a.eval oi).run P w=.ok (.value v) w) (hS:S w)
  (h:wpAnyH P md ops Q S fuel (listed.setIfInBounds i true) (a.put d v) w):wpAnyH P md ops Q S (fuel+1) listed a w :=
 wpAnyH_take hi hs hf hr hQ (Or.inl ⟨hw,hy⟩) hS (hd▸h)
section
variable (w0:World) (g:Ad) (p:Nat) (h:Hp) (v:Va) (c:Int) (w:World)
theorem Mv (hH:Hs w0 g w p h) (C:Cw w0 g h) (hk:¬v.kind=3) :
  Calls Tryz.prog 163 #[.pointer (some ⟨p,0,none⟩),iE v,int i64 c] w fun e w'=>e=.returned (iE (h.isV v c))/\Hs w0 g w' p (h.must (isRef v))/\Fr w0.heap.size g.T w w':=by
 have cI:=hH.base
 have HF:Hid (Fr w0.heap.size g.T w ((w.alloc (cT v)).alloc iy)):=((Fr.refl _ _ w).alloc cI _).alloc (by simp;omega) _
 have HH:Hid (Hs w0 g ((w.alloc (cT v)).alloc iy) p h):=hH.cf (((Cf.refl _ _ w).alloc cI _).alloc (by simp;omega) _)
 have HV:Hid (aP ((w.alloc (cT v)).alloc iy) w.heap.size v):=(iT w v ag).1
 have HR:Hid (aP ((w.alloc (cT v)).alloc iy) (w.heap.size+1) ag):=(iT w v ag).2
 have HC:Hid (Cw w0 g h):=C
 have ez:w0.heap.size<=w.heap.size+1:=by omega
 have gz:w.heap.size<=w.heap.size+1:=by omega
 clear hH C
 have hi:isRef v=false:=by unfold isRef;exact decide_eq_false hk
 have e1:h.isV v c=⟨1,0⟩:=by unfold Hp.isV Hp.mustB;rw [hi];simp
 rw [e1,hi]
 have sW:(v.kind==3)=false:=by simpa using hk
 have v0:=HV.out.c0
 have KT:h.mustB false=false:=rfl
 clear e1 hk
 go_enter Tryz.func163,Tryz.ntmps163
 go_wp2
 refine wp_region_held_drew (S:=fun w'=>w'.cell? ⟨w.heap.size,0,none⟩=some (int i64 v.kind)) (by kernel_rfl) ?_ (fun hHeld=>?_)
 ·exact v0
 refine bR (i:=0) (d:=some 8) (v:=?_) rfl rfl (by kernel_rfl) (by kernel_rfl) (by kernel_rfl) (fun _ _ _ h=>h) (by rfl) ?_ hHeld ?_
 rotate_left 1
 ·intro w' hSw;go_simp<;>with_reducible rfl
 try simp only [aS,aN,aT,a0,a1]
 refine bR (i:=1) (d:=some 9) (v:=?_) rfl rfl (by kernel_rfl) (by kernel_rfl) (by kernel_rfl) (fun _ _ _ h=>h) (by rfl) ?_ hHeld ?_
 rotate_left 1
 ·intro w' hSw;go_simp<;>with_reducible rfl
 try simp only [aS,aN,aT,a0,a1]
 refine bR (i:=2) (d:=some 10) (v:=?_) rfl rfl (by kernel_rfl) (by kernel_rfl) (by kernel_rfl) (fun _ _ _ h=>h) (by rfl) ?_ hHeld ?_
 rotate_left 1
 ·intro w' hSw;go_simp<;>with_reducible rfl
 try simp only [aS,aN,aT,a0,a1]
 refine bR (i:=3) (d:=some 11) (v:=?_) rfl rfl (by kernel_rfl) (by kernel_rfl) (by kernel_rfl) (fun _ _ _ h=>h) (by rfl) ?_ hHeld ?_
 rotate_left 1
 ·intro w' hSw;go_simp<;>with_reducible rfl
 try simp only [aS,aN,aT,a0,a1]
 refine wpAnyH_ready (rs:=[4]) (by kernel_rfl) (by simp) ?_
 refine AllReadyH.cons rfl (fun K hK=>?_) AllReadyH.nil
 go_simp
 go_at_call 55
 refine (bk w0 g HC.out.k p h false _ (HH.out.cf (Cf.drew (Cf.refl _ _ _)))).mono ?_
 rintro e w1 ⟨he,h1,f1⟩
 rw [KT] at he
 subst he
 have FD:Hid (Fr w0.heap.size g.T ((w.alloc (cT v)).alloc iy) w1):=Fr.trans (Fr.drew (Fr.refl _ _ _)) f1
 have b1:=HR.out.keep HC.out.k FD.out
 have r0:=b1.c0
 have r1:=b1.c1
 have r2:=b1.fr 0
 have r3:=b1.fr 1
 have kW:Hid (aP w1 (w.heap.size+1) ag):=b1
 clear b1
 go_wp2_with fail
 refine hK.out _ _ ((HV.out.keep HC.out.k FD.out).c0) (fun ah=>?_)
 clear hK K
 try simp only [aS,aN,aT,a0,a1]
 refine bR (i:=5) (d:=some 13) (v:=?_) rfl rfl (by kernel_rfl) (by kernel_rfl) (by kernel_rfl) (fun _ _ _ h=>h) (by rfl) ?_ ah ?_
 rotate_left 1
 ·intro w' hSw;go_simp<;>with_reducible rfl
 try simp only [aS,aN,aT,a0,a1]
 refine bt (i:=6) (d:=some 14) rfl rfl (by kernel_rfl) (by kernel_rfl) (by kernel_rfl) (fun _ _ _ h=>h) (by rfl) ah ?_
 try simp only [aS,aN,aT,a0,a1]
 refine bt (i:=7) (d:=some 15) rfl rfl (by kernel_rfl) (by kernel_rfl) (by kernel_rfl) (fun _ _ _ h=>h) (by rfl) ah ?_
 try simp only [aS,aN,aT,a0,a1]
 refine bt (i:=8) (d:=some 16) rfl rfl (by kernel_rfl) (by kernel_rfl) (by kernel_rfl) (fun _ _ _ h=>h) (by rfl) ah ?_
 try simp only [aS,aN,aT,a0,a1]
 refine bR (i:=9) (d:=some 17) (v:=?_) rfl rfl (by kernel_rfl) (by kernel_rfl) (by kernel_rfl) (fun _ _ _ h=>h) (by rfl) ?_ ah ?_
 rotate_left 1
 ·intro w' hSw;go_simp<;>with_reducible rfl
 try simp only [aS,aN,aT,a0,a1]
 refine bR (i:=10) (d:=some 18) (v:=?_) rfl rfl (by kernel_rfl) (by kernel_rfl) (by kernel_rfl) (fun _ _ _ h=>h) (by rfl) ?_ ah ?_
 rotate_left 1
 ·intro w' hSw;go_simp<;>with_reducible rfl
 try simp only [aS,aN,aT,a0,a1]
 refine bt (i:=11) (d:=some 19) rfl rfl (by kernel_rfl) (by kernel_rfl) (by kernel_rfl) (fun _ _ _ h=>h) (by rfl) ah ?_
 try simp only [aS,aN,aT,a0,a1]
 refine bt (i:=12) (d:=some 20) rfl rfl (by kernel_rfl) (by kernel_rfl) (by kernel_rfl) (fun _ _ _ h=>h) (by rfl) ah ?_
 try simp only [aS,aN,aT,a0,a1]
 refine bt (i:=13) (d:=some 21) rfl rfl (by kernel_rfl) (by kernel_rfl) (by kernel_rfl) (fun _ _ _ h=>h) (by rfl) ah ?_
 try simp only [aS,aN,aT,a0,a1]
 refine bt (i:=14) (d:=some 22) rfl rfl (by kernel_rfl) (by kernel_rfl) (by kernel_rfl) (fun _ _ _ h=>h) (by rfl) ah ?_
 try simp only [aS,aN,aT,a0,a1]
 refine bt (i:=15) (d:=some 23) rfl rfl (by kernel_rfl) (by kernel_rfl) (by kernel_rfl) (fun _ _ _ h=>h) (by rfl) ah ?_
 try simp only [aS,aN,aT,a0,a1]
 refine bt (i:=16) (d:=some 24) rfl rfl (by kernel_rfl) (by kernel_rfl) (by kernel_rfl) (fun _ _ _ h=>h) (by rfl) ah ?_
 try simp only [aS,aN,aT,a0,a1]
 refine bt (i:=17) (d:=some 25) rfl rfl (by kernel_rfl) (by kernel_rfl) (by kernel_rfl) (fun _ _ _ h=>h) (by rfl) ah ?_
 try simp only [aS,aN,aT,a0,a1]
 refine bt (i:=18) (d:=some 26) rfl rfl (by kernel_rfl) (by kernel_rfl) (by kernel_rfl) (fun _ _ _ h=>h) (by rfl) ah ?_
 try simp only [aS,aN,aT,a0,a1]
 refine bt (i:=19) (d:=some 27) rfl rfl (by kernel_rfl) (by kernel_rfl) (by kernel_rfl) (fun _ _ _ h=>h) (by rfl) ah ?_
 try simp only [aS,aN,aT,a0,a1]
 refine bt (i:=20) (d:=some 28) rfl rfl (by kernel_rfl) (by kernel_rfl) (by kernel_rfl) (fun _ _ _ h=>h) (by rfl) ah ?_
 try simp only [aS,aN,aT,a0,a1]
 refine bt (i:=21) (d:=some 29) rfl rfl (by kernel_rfl) (by kernel_rfl) (by kernel_rfl) (fun _ _ _ h=>h) (by rfl) ah ?_
 try simp only [aS,aN,aT,a0,a1]
 refine bt (i:=22) (d:=some 30) rfl rfl (by kernel_rfl) (by kernel_rfl) (by kernel_rfl) (fun _ _ _ h=>h) (by rfl) ah ?_
 try simp only [aS,aN,aT,a0,a1]
 refine bt (i:=23) (d:=some 31) rfl rfl (by kernel_rfl) (by kernel_rfl) (by kernel_rfl) (fun _ _ _ h=>h) (by rfl) ah ?_
 try simp only [aS,aN,aT,a0,a1]
 refine bt (i:=24) (d:=some 32) rfl rfl (by kernel_rfl) (by kernel_rfl) (by kernel_rfl) (fun _ _ _ h=>h) (by rfl) ah ?_
 try simp only [aS,aN,aT,a0,a1]
 refine bt (i:=25) (d:=some 33) rfl rfl (by kernel_rfl) (by kernel_rfl) (by kernel_rfl) (fun _ _ _ h=>h) (by rfl) ah ?_
 try simp only [aS,aN,aT,a0,a1]
 refine bt (i:=26) (d:=some 34) rfl rfl (by kernel_rfl) (by kernel_rfl) (by kernel_rfl) (fun _ _ _ h=>h) (by rfl) ah ?_
 try simp only [aS,aN,aT,a0,a1]
 refine bR (i:=27) (d:=some 35) (v:=?_) rfl rfl (by kernel_rfl) (by kernel_rfl) (by kernel_rfl) (fun _ _ _ h=>h) (by rfl) ?_ ah ?_
 rotate_left 1
 ·intro w' hSw;go_simp<;>with_reducible rfl
 try simp only [aS,aN,aT,a0,a1]
 refine wpAnyH_done (by kernel_rfl) ?_ _
 go_wp2
 (try simp only [Exit.inBlock,Exit.then])
 refine bodyPost_ret (results_cell_row rfl _ _ (w.heap.size+1) _ _ _ _ rfl (kW.out.set ⟨1,0⟩).blk Tryz.underlying62 rfl bp) rfl ?_
 exact ⟨rfl,h1.cf (kW.out.cf HC.out.k ez _ _),(((HF.out.trans FD.out).new gz ez _).new gz ez _)⟩
theorem Mw (hH:Hs w0 g w p h) (C:Cw w0 g h) (kX:v.kind=3->v.n<h.objs.length) :
  Calls Tryz.prog 163 #[.pointer (some ⟨p,0,none⟩),iE v,int i64 c] w fun e w'=>e=.returned (iE (h.isV v c))/\Hs w0 g w' p (h.must (isRef v))/\Fr w0.heap.size g.T w w':=by
 have Dk:=hH
 have C0:=C
 have cI:=hH.base
 have HF:Hid (Fr w0.heap.size g.T w ((w.alloc (cT v)).alloc iy)):=((Fr.refl _ _ w).alloc cI _).alloc (by simp;omega) _
 have HH:Hid (Hs w0 g ((w.alloc (cT v)).alloc iy) p h):=hH.cf (((Cf.refl _ _ w).alloc cI _).alloc (by simp;omega) _)
 have HV:Hid (aP ((w.alloc (cT v)).alloc iy) w.heap.size v):=(iT w v ag).1
 have HR:Hid (aP ((w.alloc (cT v)).alloc iy) (w.heap.size+1) ag):=(iT w v ag).2
 have HC:Hid (Cw w0 g h):=C
 have ez:w0.heap.size<=w.heap.size+1:=by omega
 have gz:w.heap.size<=w.heap.size+1:=by omega
 clear hH C
 by_cases hk:v.kind=3
 ·clear Dk C0
  obtain ⟨vk,vn⟩:=v
  dsimp only at *
  subst hk
  have EM:h.must (isRef ⟨3,vn⟩)=h:=rfl
  rw [EM]
  clear EM
  cases br:h.over
  ·have qK:(!h.over)=true:=by rw [br];rfl
   by_cases hn:vn<0
   ·have e1:h.isV ⟨3,vn⟩ c=⟨1,0⟩:=by unfold Hp.isV;dsimp only;rw [decide_eq_false (by omega)];simp
    rw [e1]
    clear e1 kX
    have d1:decide (0<=vn)=false:=decide_eq_false (by omega)
    go_enter Tryz.func163,Tryz.ntmps163
    go_wp2
    go_quiet ((go_at_call 55;exact Calls.quiet_of_same ((dj w0 g p h _ (HH.out.drewN _)).mono fun e w' hh=>⟨hh.1.trans (aj qK),hh.2⟩)))
    go_wp2
    (try simp only [Exit.inBlock,Exit.then])
    refine bodyPost_ret (results_cell_row rfl _ _ (w.heap.size+1) _ _ _ _ rfl ((HR.out.drewN _).set ⟨1,0⟩).blk Tryz.underlying62 rfl bp) rfl ?_
    exact ⟨rfl,(HH.out.drewN _).cf ((HR.out.drewN _).cf HC.out.k ez _ _),(((HF.out.drewN _).new gz ez _).new gz ez _)⟩
   ·obtain ⟨n,rfl⟩:∃n:Nat,vn=n:=⟨vn.toNat,by omega⟩
    have kx:n<h.objs.length:=by have:=kX rfl;omega
    obtain ⟨vo,vx,hv,H⟩:=HH.out
    have nu:Hid (ct ((w.alloc (cT ⟨3,n⟩)).alloc iy) g.A h.file.classes):=HC.out.cls.bl H.bl
    have c0:=H.cells.c0
    have c2:=H.cells.c2
    obtain ⟨gb,cap,mY,-,yE,hcc⟩:=kj H.obs (by omega)
    rw [mY] at c2
    have o1:=(hcc n kx).1
    unfold maxLen at yE
    have kv:(0:Int)<=(n:Int):=by omega
    have kg:(n:Int)<(h.objs.length:Int):=by omega
    clear hcc mY H kX hn
    obtain ⟨R,hR⟩:∃R,(kU h.file.classes (nth cB h.objs n).cls c&&fK h.file.classes (nth cB h.objs n).cls.toNat c.toNat)=R:=⟨_,rfl⟩
    have e1:h.isV ⟨3,n⟩ c=⟨1,if R=true then 1 else 0⟩:=by
     unfold Hp.isV Hp.mustB Hp.obj gH;dsimp only;rw [br,Int.toNat_natCast,hR,decide_eq_true kv];simp [isRef]
    rw [e1]
    clear e1
    generalize hX:(nth cB h.objs n).cls=X at *
    clear hX
    cases R
    ·go_enter Tryz.func163,Tryz.ntmps163
     go_wp2
     go_quiet (first|(go_at_call 55;exact Calls.quiet_of_same ((dj w0 g p h _ (HH.out.drewN _)).mono fun e w' hh=>⟨hh.1.trans (aj qK),hh.2⟩))|(go_at_call 110;exact Calls.quiet_of_same ((fO _ _ _ _ _ _ (nu.out.bl (aR (Bl.refl _) _)) HC.out.tree).mono fun e w' hh=>⟨hh.1.trans (aj hR),hh.2⟩)))
     go_wp2
     (try simp only [Exit.inBlock,Exit.then])
     refine bodyPost_ret (results_cell_row rfl _ _ (w.heap.size+1) _ _ _ _ rfl ((HR.out.drewN _).set ⟨1,0⟩).blk Tryz.underlying62 rfl bp) rfl ?_
     exact ⟨rfl,(HH.out.drewN _).cf ((HR.out.drewN _).cf HC.out.k ez _ _),(((HF.out.drewN _).new gz ez _).new gz ez _)⟩
    ·go_enter Tryz.func163,Tryz.ntmps163
     go_wp2
     go_quiet (first|(go_at_call 55;exact Calls.quiet_of_same ((dj w0 g p h _ (HH.out.drewN _)).mono fun e w' hh=>⟨hh.1.trans (aj qK),hh.2⟩))|(go_at_call 110;exact Calls.quiet_of_same ((fO _ _ _ _ _ _ (nu.out.bl (aR (Bl.refl _) _)) HC.out.tree).mono fun e w' hh=>⟨hh.1.trans (aj hR),hh.2⟩)))
     go_wp2
     (try simp only [Exit.inBlock,Exit.then])
     refine bodyPost_ret (results_cell_row rfl _ _ (w.heap.size+1) _ _ _ _ rfl ((HR.out.drewN _).set ⟨1,1⟩).blk Tryz.underlying62 rfl bp) rfl ?_
     exact ⟨rfl,(HH.out.drewN _).cf ((HR.out.drewN _).cf HC.out.k ez _ _),(((HF.out.drewN _).new gz ez _).new gz ez _)⟩
  ·have qK:(!h.over)=false:=by rw [br];rfl
   have e1:h.isV ⟨3,vn⟩ c=⟨1,0⟩:=by unfold Hp.isV Hp.mustB;rw [br];simp
   rw [e1]
   clear e1 kX
   go_enter Tryz.func163,Tryz.ntmps163
   go_wp2
   go_quiet ((go_at_call 55;exact Calls.quiet_of_same ((dj w0 g p h _ (HH.out.drewN _)).mono fun e w' hh=>⟨hh.1.trans (aj qK),hh.2⟩)))
   go_wp2
   (try simp only [Exit.inBlock,Exit.then])
   refine bodyPost_ret (results_cell_row rfl _ _ (w.heap.size+1) _ _ _ _ rfl ((HR.out.drewN _).set ⟨1,0⟩).blk Tryz.underlying62 rfl bp) rfl ?_
   exact ⟨rfl,(HH.out.drewN _).cf ((HR.out.drewN _).cf HC.out.k ez _ _),(((HF.out.drewN _).new gz ez _).new gz ez _)⟩
 ·exact Mv w0 g p h v c w Dk C0 hk
end
abbrev cO (op ia ib ic ii:Int) (Q:Option Addr) (nl q:Nat):Array Value:=#[int i64 op,int i64 ia,int i64 ib,int i64 ic,int i64 ii,.slice Q nl q]
structure cJ (w:World) (b:Nat) (op ia ib ic ii:Int):Prop where
 ex:∃u,w.heap[b]?=some (.cells #[int i64 op,int i64 ia,int i64 ib,int i64 ic,int i64 ii,u] 55 (0,0))
section
variable {w:World} {b:Nat} {op ia ib ic ii:Int}
theorem cJ.c0 (h:cJ w b op ia ib ic ii):w.cell? ⟨b,0,none⟩=some (int i64 op):=by
 obtain ⟨u,h⟩:=h.ex;rw [aa h];rfl
theorem cJ.c1 (h:cJ w b op ia ib ic ii):w.cell? ⟨b,1,none⟩=some (int i64 ia):=by
 obtain ⟨u,h⟩:=h.ex;rw [aa h];rfl
theorem cJ.c2 (h:cJ w b op ia ib ic ii):w.cell? ⟨b,2,none⟩=some (int i64 ib):=by
 obtain ⟨u,h⟩:=h.ex;rw [aa h];rfl
theorem cJ.c4 (h:cJ w b op ia ib ic ii):w.cell? ⟨b,4,none⟩=some (int i64 ii):=by
 obtain ⟨u,h⟩:=h.ex;rw [aa h];rfl
end
theorem cJ.fq {B:Nat} {T:TypeId} {a:Ca} {w w':World} {b:Nat} {op ia ib ic ii:Int} (h:cJ w b op ia ib ic ii) (k:Tk T) (f:Fq B T a w w') (h1:b≠a.q) (h2:b≠a.lb):cJ w' b op ia ib ic ii:=by
 obtain ⟨u,h⟩:=h.ex;exact ⟨u,f.keep _ _ _ _ h k.nn h1 h2⟩
theorem cJ.fr {B:Nat} {T:TypeId} {w w':World} {b:Nat} {op ia ib ic ii:Int} (h:cJ w b op ia ib ic ii) (k:Tk T) (f:Fr B T w w'):cJ w' b op ia ib ic ii:=by
 obtain ⟨u,h⟩:=h.ex;exact ⟨u,f.keep _ _ _ _ h k.nn⟩
theorem cJ.drewN {w:World} {b:Nat} {op ia ib ic ii:Int} (h:cJ w b op ia ib ic ii) (n:Nat):cJ (w.drewN n) b op ia ib ic ii:=⟨h.ex⟩
theorem aP.fq {B:Nat} {T:TypeId} {a:Ca} {w w':World} {b:Nat} {v:Va} (h:aP w b v) (k:Tk T) (f:Fq B T a w w') (h1:b≠a.q) (h2:b≠a.lb):aP w' b v:=⟨f.keep _ _ _ _ h.blk k.nv h1 h2⟩
theorem Ab (w:World) (op ia ib ic ii:Int) (u:Value):cJ ((w.alloc (.cells #[int i64 op,int i64 ia,int i64 ib,int i64 ic,int i64 ii,u] 55)).alloc iy) w.heap.size op ia ib ic ii
  /\ aP ((w.alloc (.cells #[int i64 op,int i64 ia,int i64 ib,int i64 ic,int i64 ii,u] 55)).alloc iy) (w.heap.size+1) ag :=
 ⟨⟨u,iG (by simp) (cd rfl)⟩,⟨cd (by simp)⟩⟩
theorem bG.fst {lb:Nat} {w:World} {A:Option Addr} {l:List Va} (h:bG lb w A l) (hl:0<l.length):∃b off,A=some ⟨b,off,none⟩/\∀i,i<l.length->w.cell? ⟨b,off+i*2,none⟩=some (int i64 (nth ag l i).kind)/\w.cell? ⟨b,off+i*2+1,none⟩=some (int i64 (nth ag l i).n):=by
 rcases h with h|⟨b,off,cs,f,h1,h2,h3,h4⟩
 ·omega
 ·exact ⟨b,off,h1,fun i hi=>by rw [aa h2,aa h2];exact h4 i hi⟩
theorem Cs.old {w0 w w':World} {a:Ca} {c:aH} (h:Cs w0 w a c) (hb:Bl w w'):Cs w0 w' a c:=by
 obtain ⟨A,cap,h⟩:=h
 exact ⟨A,cap,h.old hb⟩
theorem Cs.lt {w0 w:World} {a:Ca} {c:aH} (h:Cs w0 w a c):a.q<w.heap.size/\a.lb<w.heap.size:=by
 obtain ⟨A,cap,h⟩:=h
 exact ⟨af h.blk,af h.loc.blk⟩
def Ld (N:Nat) (A:Option Addr) (n:Nat):Prop:=n=0∨∃b off,A=some ⟨b,off,none⟩/\b<N
theorem bq.ere {w0 w:World} {a:Ca} {c:aH} {A:Option Addr} {cap:Nat} (h:bq w0 w a c A cap):Ld w.heap.size A c.stk.length:=by
 rcases h.stk with h0|⟨b,off,cs,f,h1,h2,-⟩
 ·exact Or.inl h0
 ·exact Or.inr ⟨b,off,h1,af h2⟩
theorem kK {N n b off:Nat} {A:Option Addr} (h:Ld N A n) (hn:0<n) (hb:∀x y:Addr,A=some x->some (⟨b,off,none⟩:Addr)=some y->y.block=x.block):b≠N+1:=by
 rcases h with h|⟨b0,o0,rfl,h⟩
 ·omega
 ·have:=hb _ _ rfl rfl
  simp only at this
  omega
theorem eW (c:aH) (k:Nat):(c.cut k).stk.length<=c.stk.length:=by unfold aH.cut;split<;>simp
theorem Ld.le {N n m:Nat} {A:Option Addr} (h:Ld N A n) (hm:m<=n):Ld N A m:=by
 rcases h with h|h
 ·exact Or.inl (by omega)
 ·exact Or.inr h
section
variable {w0 w:World} {a:Ca} {c:aH} {A:Option Addr} {cap N b:Nat}
theorem bq.box (h:bq w0 w a c A cap) (he:Ld N A c.stk.length) (hb:N<=b) (h1:b≠a.q) (h2:b≠a.lb) (i:Nat) (v:Value):bq w0 (w.setCell ⟨b,i,none⟩ v) a c A cap:=by
 refine ⟨h.own,h.ownl,?_,⟨?_,h.loc.len⟩,?_,h.me,h.cap⟩
 ·rw [aA (Ne.symm h1)];exact h.blk
 ·rw [aA (Ne.symm h2)];exact h.loc.blk
 ·rcases h.stk with h0|⟨b',off,cs,f,h3,h4,h5,h6⟩
  ·exact Or.inl h0
  ·rcases he with he|⟨b2,o2,e2,e3⟩
   ·exact Or.inl he
   ·rw [h3] at e2
    simp only [Option.some.injEq,Addr.mk.injEq] at e2
    obtain ⟨rfl,-,-⟩:=e2
    exact Or.inr ⟨b',off,cs,f,h3,by rw [aA (by omega)];exact h4,h5,h6⟩
theorem bq.box2 (h:bq w0 w a c A cap) (he:Ld N A c.stk.length) (hb:N<=b) (h1:b≠a.q) (h2:b≠a.lb) (u v:Value):bq w0 ((w.setCell ⟨b,0,none⟩ u).setCell ⟨b,1,none⟩ v) a c A cap :=
 (h.box he hb h1 h2 0 u).box he hb h1 h2 1 v
end
theorem Fq.box2 {B:Nat} {T:TypeId} {a:Ca} {x w:World} {b:Nat} (h:Fq B T a x w) (hb:x.heap.size<=b) (hB:B<=b) (u v:Value):Fq B T a x ((w.setCell ⟨b,0,none⟩ u).setCell ⟨b,1,none⟩ v):=by
 refine ⟨(h.bl.setCell hB u).setCell hB v,fun y cs t f e n n1 n2=>?_⟩
 have:=af e
 rw [aA (by omega),aA (by omega)]
 exact h.keep y cs t f e n n1 n2
theorem bG.fq {B:Nat} {T:TypeId} {w0 w w':World} {a:Ca} {c:aH} {A A':Option Addr} {cap:Nat} {l:List Va} (h:bG a.lb w A l) (H:bq w0 w a c A' cap) (k:Tk T) (f:Fq B T a w w'):bG a.lb w' A l :=
 h.keep fun b cs fz e n=>f.keep b cs _ fz e k.nv (fun hb=>by rw [hb,H.blk] at e;simp at e) n
section
variable {w0 w:World} {g:Ad} {p:Nat} {h:Hp} {a:Ca} {c:aH} (K ia ib ic ii:Int) (Q:Option Addr) (nl q:Nat)
theorem jF (hH:Hs w0 g w p h) (hC:Cs w0 w a c) (C:Cw w0 g h) :
  ∃A cap,Hid (Ld w.heap.size A c.stk.length)/\a.q<w.heap.size/\a.lb<w.heap.size/\Hid (Fr w0.heap.size g.T w ((w.alloc (.cells (cO K ia ib ic ii Q nl q) 55)).alloc iy))/\Hid (Hs w0 g ((w.alloc (.cells (cO K ia ib ic ii Q nl q) 55)).alloc iy) p h)
   /\ Hid (bq w0 ((w.alloc (.cells (cO K ia ib ic ii Q nl q) 55)).alloc iy) a c A cap)/\Hid (cJ ((w.alloc (.cells (cO K ia ib ic ii Q nl q) 55)).alloc iy) w.heap.size K ia ib ic ii)
   /\ Hid (aP ((w.alloc (.cells (cO K ia ib ic ii Q nl q) 55)).alloc iy) (w.heap.size+1) ag)/\Hid (Cw w0 g h)/\w0.heap.size<=w.heap.size+1/\w.heap.size<=w.heap.size+1/\w.heap.size≠a.q/\w.heap.size≠a.lb/\w.heap.size+1≠a.q/\w.heap.size+1≠a.lb:=by
 have cI:=hH.base
 obtain ⟨A,cap,H0⟩:=hC
 have cV:a.q<w.heap.size:=af H0.blk
 have gJ:a.lb<w.heap.size:=af H0.loc.blk
 have hbl:Bl w ((w.alloc (.cells (cO K ia ib ic ii Q nl q) 55)).alloc iy):=((Bl.refl w).alloc _).alloc _
 exact ⟨A,cap,H0.ere,cV,gJ,Fr.old cI hbl,hH.old hbl,H0.old hbl,(Ab w K ia ib ic ii _).1,(Ab w K ia ib ic ii (.slice Q nl q)).2,C,by omega,by omega,by omega,by omega,by omega,by omega⟩
theorem dpre (hH:Hs w0 g w p h) (hC:Cs w0 w a c) (C:Cw w0 g h) (eP:c.stk.length<=500) :
  ∃A cap,a.q<w.heap.size/\a.lb<w.heap.size/\Hid (Fr w0.heap.size g.T w (w.alloc (.cells (cO K ia ib ic ii Q nl q) 55)))/\Hid (Hs w0 g (w.alloc (.cells (cO K ia ib ic ii Q nl q) 55)) p h)
   /\ Hid (bq w0 (w.alloc (.cells (cO K ia ib ic ii Q nl q) 55)) a c A cap)/\(w.alloc (.cells (cO K ia ib ic ii Q nl q) 55)).cell? ⟨a.q,10,none⟩=some (int i64 c.pc)/\Hid (cJ (w.alloc (.cells (cO K ia ib ic ii Q nl q) 55)) w.heap.size K ia ib ic ii)/\Hid (Cw w0 g h)
   /\ w.heap.size≠a.q/\w.heap.size≠a.lb/\a.q≠w.heap.size/\a.lb≠w.heap.size/\a.q<w.heap.size+1/\a.lb<w.heap.size+1/\c.stk.length<=1000:=by
 have cI:=hH.base
 obtain ⟨A,cap,H0⟩:=hC
 have cV:a.q<w.heap.size:=af H0.blk
 have gJ:a.lb<w.heap.size:=af H0.loc.blk
 have hbl:Bl w (w.alloc (.cells (cO K ia ib ic ii Q nl q) 55)):=(Bl.refl w).alloc _
 have hc:=H0.old hbl
 exact ⟨A,cap,cV,gJ,Fr.old cI hbl,hH.old hbl,hc,hc.cells.c10,⟨_,cd rfl⟩,C,by omega,by omega,by omega,by omega,by omega,by omega,by omega⟩
end
theorem ky {w0 W w1:World} {g:Ad} {p n:Nat} {h h0:Hp} {a:Ca} {c:aH} {A:Option Addr} {many:Nat} {l:List Va} {same:Bool} {e:Ending} {K ia ib ic ii:Int} {ov:Bool} (hT:pH w0 g p a A W many h c l same e w1) (HI:Hid (cJ W n K ia ib ic ii)) (HW:Hid (Cw w0 g h0)) (n1:n≠a.q) (n2:n≠a.lb) (br:h.over=ov) :
  ∃A1 cW bd,e=.returned (.slice A1 many cW)/\bG a.lb w1 A1 l/\w1.cell? ⟨n,0,none⟩=some (int i64 K)/\w1.cell? ⟨n,1,none⟩=some (int i64 ia)/\w1.cell? ⟨n,2,none⟩=some (int i64 ib)/\w1.cell? ⟨n,4,none⟩=some (int i64 ii)/\Hid (cJ w1 n K ia ib ic ii)
   /\ Hid (Hs w0 g w1 p h)/\w1.cell? ⟨p,12,none⟩=some (.bool ov)/\Hid (bq w0 w1 a c A bd)/\Fq w0.heap.size g.T a W w1/\(same=true->∀x y,A=some x->A1=some y->y.block=x.block):=by
 obtain ⟨A1,cW,bd,rfl,de,h1,c1,f1,kn⟩:=hT
 have i1:=HI.out.fq HW.out.k f1 n1 n2
 have vD:=h1
 obtain ⟨vo,vx,hv,X⟩:=h1
 exact ⟨A1,cW,bd,rfl,de,i1.c0,i1.c1,i1.c2,i1.c4,i1,vD,by rw [X.cells.c12,br],c1,f1,kn⟩
theorem rF {w0 W w1:World} {g:Ad} {n:Nat} {h0:Hp} {a:Ca} (HR:Hid (aP W n ag)) (HW:Hid (Cw w0 g h0)) (f1:Fq w0.heap.size g.T a W w1) (n3:n≠a.q) (n4:n≠a.lb) :
  w1.cell? ⟨n,0,none⟩=some (int i64 ag.kind)/\w1.cell? ⟨n,1,none⟩=some (int i64 ag.n)/\w1.frozen? ⟨n,0,none⟩=false/\w1.frozen? ⟨n,1,none⟩=false/\Hid (aP w1 n ag):=by
 have b1:=HR.out.fq HW.out.k f1 n3 n4
 exact ⟨b1.c0,b1.c1,b1.fr 0,b1.fr 1,b1⟩
section
variable {w0 w1 w2:World} {g:Ad} {n:Nat} {h0:Hp}
theorem ES (HR:Hid (aP w1 n ag)) (HW:Hid (Cw w0 g h0)) (F2:Hid (Fr w0.heap.size g.T w1 w2)) :
  w2.cell? ⟨n,0,none⟩=some (int i64 ag.kind)/\w2.cell? ⟨n,1,none⟩=some (int i64 ag.n)/\w2.frozen? ⟨n,0,none⟩=false/\w2.frozen? ⟨n,1,none⟩=false/\Hid (aP w2 n ag):=by
 have b1:=HR.out.keep HW.out.k F2.out
 exact ⟨b1.c0,b1.c1,b1.fr 0,b1.fr 1,b1⟩
theorem Ae {K ia ib ic ii:Int} (HI:Hid (cJ w1 n K ia ib ic ii)) (HW:Hid (Cw w0 g h0)) (F2:Hid (Fr w0.heap.size g.T w1 w2)) :
  w2.cell? ⟨n,1,none⟩=some (int i64 ia)/\w2.cell? ⟨n,2,none⟩=some (int i64 ib)/\Hid (cJ w2 n K ia ib ic ii):=by
 have i2:=HI.out.fr HW.out.k F2.out
 exact ⟨i2.c1,i2.c2,i2⟩
end
section
variable {lb:Nat} {w:World} {A:Option Addr} {l:List Va}
theorem ko (st:bG lb w A l) (hl:0<l.length):∃b off,A=some ⟨b,off,none⟩/\w.cell? ⟨b,off,none⟩=some (int i64 (nth ag l 0).kind)/\w.cell? ⟨b,off+1,none⟩=some (int i64 (nth ag l 0).n)/\Hid (bG lb w (some ⟨b,off,none⟩) l):=by
 obtain ⟨b,off,rfl,hc⟩:=st.fst hl
 have t0:=(hc 0 hl).1
 have t1:=(hc 0 hl).2
 rw [Nat.zero_mul,Nat.add_zero] at t0 t1
 exact ⟨b,off,rfl,t0,t1,st⟩
theorem yK (st:bG lb w A l) (hl:1<l.length):∃b off,A=some ⟨b,off,none⟩/\w.cell? ⟨b,off,none⟩=some (int i64 (nth ag l 0).kind)/\w.cell? ⟨b,off+1,none⟩=some (int i64 (nth ag l 0).n)/\w.cell? ⟨b,off+2,none⟩=some (int i64 (nth ag l 1).kind)/\w.cell? ⟨b,off+2+1,none⟩=some (int i64 (nth ag l 1).n)/\Hid (bG lb w (some ⟨b,off,none⟩) l):=by
 obtain ⟨b,off,rfl,hc⟩:=st.fst (by omega)
 have t0:=(hc 0 (by omega)).1
 have t1:=(hc 0 (by omega)).2
 have t2:=(hc 1 hl).1
 have t3:=(hc 1 hl).2
 rw [Nat.zero_mul,Nat.add_zero] at t0 t1
 rw [Nat.one_mul] at t2 t3
 exact ⟨b,off,rfl,t0,t1,t2,t3,st⟩
end
section
variable {w0 w1 w2:World} {g:Ad} {h0:Hp} {lb b off:Nat} {l:List Va}
theorem Lg (ST:Hid (bG lb w1 (some ⟨b,off,none⟩) l)) (HW:Hid (Cw w0 g h0)) (F2:Hid (Fr w0.heap.size g.T w1 w2)) (hl:0<l.length):w2.cell? ⟨b,off,none⟩=some (int i64 (nth ag l 0).kind)/\w2.cell? ⟨b,off+1,none⟩=some (int i64 (nth ag l 0).n)/\Hid (bG lb w2 (some ⟨b,off,none⟩) l):=by
 obtain ⟨b',gj,e,t0,t1,s⟩:=ko (ST.out.fr HW.out.k F2.out) hl
 simp only [Option.some.injEq,Addr.mk.injEq] at e
 obtain ⟨rfl,rfl,-⟩:=e
 exact ⟨t0,t1,s⟩
theorem OP (ST:Hid (bG lb w1 (some ⟨b,off,none⟩) l)) (HW:Hid (Cw w0 g h0)) (F2:Hid (Fr w0.heap.size g.T w1 w2)) (hl:1<l.length):w2.cell? ⟨b,off,none⟩=some (int i64 (nth ag l 0).kind)/\w2.cell? ⟨b,off+1,none⟩=some (int i64 (nth ag l 0).n)/\w2.cell? ⟨b,off+2,none⟩=some (int i64 (nth ag l 1).kind)/\w2.cell? ⟨b,off+2+1,none⟩=some (int i64 (nth ag l 1).n)/\Hid (bG lb w2 (some ⟨b,off,none⟩) l):=by
 obtain ⟨b',gj,e,t0,t1,t2,t3,s⟩:=yK (ST.out.fr HW.out.k F2.out) hl
 simp only [Option.some.injEq,Addr.mk.injEq] at e
 obtain ⟨rfl,rfl,-⟩:=e
 exact ⟨t0,t1,t2,t3,s⟩
end
end Go.Proofs.YtgiiapenmjollaaGreat
