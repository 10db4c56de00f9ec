import Derived.Test.YtgiiapenmjollaaGreatRrab
import Derived.Test.YtgiiapenmjollaaGreatRrac
import Derived.Deep.RegionLaw
import Derived.Defers
import Derived.Recover
namespace Go.Proofs.YtgiiapenmjollaaGreat
set_option linter.all false
set_option maxHeartbeats 40000000
set_option maxRecDepth 100000
open Go.RowKit
open Tryz
variable {c:aL} {h:Hp} {l:List Va} {a:Mc} {g:Mg} {b s:Nat} {X:Nat->Prop} {vc vo vs vx:Value} {w w0 wx:World}
theorem CY (lb lc n:Nat) (l:List Va) (w:World) (B:cu w lb l) (hn:n+1<l.length) (hl:l.length<=1000) (hk:(nth aE l n).kind=2) (h4:(nth aE l (n+1)).kind≠4) :
  χ 149 #[.slice (some ⟨lb,0,none⟩) l.length lc,ι (n:Int),ι 2] w fun e w'=>e=bF 6 0 0/\Bl w w':=by
 have x0:=B.c0 (i:=n) (by omega)
 have x1:=B.c1 (i:=n) (by omega)
 have Tv:=ae (B.c0 (i:=n+1) hn)
 have Tw:=ae (B.c1 (i:=n+1) hn)
 have hlt:=af B.blk
 have iw:(0:Int)<=(n:Int):=by omega
 have fT:(n:Int)<(l.length:Int):=by omega
 have lv:(0:Int)<=(n:Int)+1:=by omega
 have VS:(n:Int)+1<(l.length:Int):=by omega
 have HK:=ae hk
 have Tx:=ae h4
 have HB:Θ (Bl w (w.alloc fa)):=(Bl.refl w).alloc _
 generalize nth aE l n=u at *
 generalize nth aE l (n+1)=u' at *
 clear B hk h4
 go_enter func149,ntmps149
 go_wp2_with (go_at_call 144;first
  | (refine (dZ u 2 _ HK.o).mono ?_;rintro e w2 ⟨rfl,b2⟩;have y2:=b2.cell (Bl.cell HB.o Tv.o);have y3:=b2.cell (Bl.cell HB.o Tw.o);have sM:=br y2;replace b2:=ae b2)
  | (refine (jV u' 4 _ Tx.o).mono ?_;rintro e w3 ⟨rfl,b3⟩;replace b3:=ae b3))
 exact ⟨rfl,rfl,(HB.o.trans (b2.o.alloc _)).trans b3.o⟩
theorem qW (lb lc n:Nat) (l:List Va) (v:Va) (w:World) (B:cu w lb l) (hn:n+1<l.length) (hl:l.length<=1000) (hk:v.kind=2) :
  χ 84 #[.slice (some ⟨lb,0,none⟩) l.length lc,ι (n:Int),cm v] w fun e w'=>e=.returned (.tuple #[])/\cu w' lb ((l.set n v).set (n+1) ⟨4,0⟩)/\w.grownBy w' (some lb):=by
 obtain ⟨vk,vn⟩:=v
 dsimp only at hk
 subst hk
 have x0:=B.c0 (i:=n) (by omega)
 have x1:=B.c1 (i:=n) (by omega)
 have x2:=B.c0 (i:=n+1) hn
 have x3:=B.c1 (i:=n+1) hn
 have fz:=aA B.blk
 have hlt:=af B.blk
 have iw:(0:Int)<=(n:Int):=by omega
 have fT:(n:Int)<(l.length:Int):=by omega
 have lv:(0:Int)<=(n:Int)+1:=by omega
 have VS:(n:Int)+1<(l.length:Int):=by omega
 have HB:=ae B
 have hne:lb≠w.heap.size:=by omega
 have ig:n<l.length:=by omega
 clear B
 go_enter func84,ntmps84
 go_wp2
 go_end0
 have h1:=HB.o.set ig (⟨2,vn⟩:Va)
 have h2:=h1.set (i:=n+1) (by rw [List.length_set];exact hn) (⟨4,0⟩:Va)
 exact ⟨rfl,h2.bl ((Bl.refl _).alloc _),dy (dy (dy (dy (cD lb _ _) (cD lb _ _)) (cD lb _ _)) (cD lb _ _)) (World.grownBy_alloc _ _ _)⟩
theorem CA.lbox (H:CA w0 g w a c l vs):cu w a.lb l:=⟨H.loc⟩
section
variable {w0:World} {g:Mg} {a:Mc} {c:aL} {l:List Va} {vs:Value} {w:World}
theorem FU (H:CA w0 g w a c l vs) (n:Nat) (k:Int) (hn:n<c.locs.length) (hk:1<=k/\k<=3) (h2:k=2->n+1<c.locs.length) (hv:(nth aE c.locs n).kind=k) :
  χ 149 #[.slice (some ⟨a.lb,0,none⟩) c.locs.length a.lc,ι (n:Int),ι k] w fun e w'=>e=.returned (cm (im (nth aE c.locs n)))/\Bl w w':=by
 have hl:=H.rel.len
 have hs:=H.short
 have e:=H.rel.rd n (by omega) (by omega)
 rw [<-hl,<-e]
 by_cases h:k=2
 ·subst h
  exact CX a.lb a.lc n l w H.lbox (by have:=h2 rfl;omega) (by omega) (by rw [e];exact hv) (H.rel.long n hv)
 ·exact FT a.lb a.lc n l k w H.lbox (by omega) (by omega) (by rw [e];exact hv) h
theorem Kr (H:CA w0 g w a c l vs) (n:Nat) (k:Int) (hn:n<c.locs.length) (hk:1<=k/\k<=3) (h2:k=2->n+1<c.locs.length) (hv:(nth aE c.locs n).kind≠k) :
  χ 149 #[.slice (some ⟨a.lb,0,none⟩) c.locs.length a.lc,ι (n:Int),ι k] w fun e w'=>e=bF 6 0 0/\Bl w w':=by
 have hl:=H.rel.len
 have hs:=H.short
 rw [<-hl]
 by_cases hm:(nth aE l n).kind=k
 ·by_cases h:k=2
  ·subst h
   refine CY a.lb a.lc n l w H.lbox (by have:=h2 rfl;omega) (by omega) hm fun h4=>hv ?_
   rw [H.rel.back n (by omega) (by omega) (fun _=>h4)]
   exact hm
  ·exact absurd ((H.rel.back n (by omega) (by omega) (fun q=>absurd (hm.symm.trans q) h)).trans hm) hv
 ·exact CW a.lb a.lc n l k w H.lbox (by omega) (by omega) hm
end
theorem oI.setl {w':World} {qs:List Qb} {l':List Va} (H:oI s X wx w0 g w h qs a c vc vo vx vs l) (hg:w.grownBy w' (some a.lb)) (hb:cu w' a.lb l') {L:List Va} (hr:mM L l') (hL:L.length=c.locs.length) :
  oI s X wx w0 g w' h qs a { c with locs:=L } vc vo vx vs l':=by
 have hf:=(H.ca.far H.rh).2.1
 have dI:a.q≠a.lb:=cC H.ca.blk H.ca.loc (by decide)
 refine ⟨H.rh.kept hg (fun b e=>?_),⟨H.ca.own,H.ca.ownl,H.ca.ownb,?_,aV hg H.ca.box (fun e=>cC H.ca.box H.ca.loc (by decide) (Option.some.inj e).symm),hb.blk,hr,H.ca.stk.kept hg (Or.inr H.ca.apart),H.ca.apart,H.ca.me,by dsimp only;rw [hL];exact H.ca.short,H.ca.kinds⟩,H.farr,H.farc,H.kept.kept hg (fun b e hx=>?_)⟩
 ·cases e;exact ⟨H.ca.ownl,hf⟩
 ·have:=aV hg H.ca.blk (fun e=>dI (Option.some.inj e).symm)
  rw [this]
  unfold qg
  dsimp only
  rw [hL]
 ·cases e;exact (H.farc _ hx).l rfl
theorem CZ (s:Nat) (X:Nat->Prop) (wx w0:World) (g:Mg) (h:Hp) (qs:List Qb) (a:Mc) (c:aL) (n:Nat) (v:Va) (w:World) (H:RX s X wx w0 g w h qs a c) (hn:n<c.locs.length) (hv:1<=v.kind/\v.kind<=3) (h2:v.kind=2->n+1<c.locs.length) :
  χ 84 #[.slice (some ⟨a.lb,0,none⟩) c.locs.length a.lc,ι (n:Int),cm (im v)] w fun e w'=>e=.returned (.tuple #[])/\RX s X wx w0 g w' h qs a { c with locs:=eL c.locs n v }:=by
 obtain ⟨vc,vo,vx,vs,l,H⟩:=H
 have hl:=H.ca.rel.len
 have hs:=H.ca.short
 have hr:=H.ca.rel.sto hn v hv h2
 have hL:(eL c.locs n v).length=c.locs.length:=kE _ _ _
 by_cases hk:v.kind=2
 ·have e:jQ l n (im v)=(l.set n (im v)).set (n+1) ⟨4,0⟩:=by unfold jQ;rw [if_pos (by exact hk)]
  rw [e] at hr
  rw [<-hl]
  refine (qW a.lb a.lc n l (im v) w H.ca.lbox (by have:=h2 hk;omega) (by omega) hk).mono ?_
  rintro x w' ⟨rfl,h3,h4⟩
  exact ⟨rfl,vc,vo,vx,vs,_,H.setl h4 h3 hr hL⟩
 ·have e:jQ l n (im v)=l.set n (im v):=by unfold jQ;rw [if_neg (by exact hk)]
  rw [e] at hr
  rw [<-hl]
  refine (tv a.lb a.lc n l (im v) w H.ca.lbox (by omega) (by omega) hk).mono ?_
  rintro x w' ⟨rfl,h3,h4⟩
  exact ⟨rfl,vc,vo,vx,vs,_,H.setl h4 h3 hr hL⟩
theorem dz.hb {Y:Nat->Prop} {qs:List Qb} (H:dz s X Y wx w0 g w h qs a c):w.cell? ⟨a.q,0,none⟩=some (π g.hb 0):=by
 obtain ⟨vc,vo,vx,vs,l,H,F⟩:=H
 exact H.ca.cells.c0
theorem RX.qlt {qs:List Qb} (H:RX s X wx w0 g w h qs a c):a.q<w.heap.size:=by
 obtain ⟨vc,vo,vx,vs,l,H⟩:=H
 exact af H.ca.blk
theorem bc (w:World) (a b:Array Value) (s t:TypeId):((w.alloc (.cells a s)).alloc (.cells b t)).heap[w.heap.size]?=some (.cells a s (0,0))/\((w.alloc (.cells a s)).alloc (.cells b t)).heap[w.heap.size+1]?=some (.cells b t (0,0)):=by
 have h1:(w.alloc (.cells a s)).heap.size=w.heap.size+1:=by simp
 refine ⟨?_,?_⟩
 ·rw [Below.heap_alloc _ _ _ (by omega)];exact aB _ _ _
 ·rw [<-h1];exact aB _ _ _
section
variable (w:World) (o:Obj)
theorem xd:w.heap.size<(w.alloc o).heap.size:=by simp
theorem oJ (p:Obj):w.heap.size<((w.alloc o).alloc p).heap.size:=by simp;omega
theorem dg (p:Obj):w.heap.size+1<((w.alloc o).alloc p).heap.size:=by simp
end
theorem dh {b':Nat} {o:Obj} (h:w.heap[b]?=some o) (hb:b≠b') (k n:Value):((w.setCell ⟨b',0,none⟩ k).setCell ⟨b',1,none⟩ n).heap[b]?=some o:=by rw [ak hb,ak hb];exact h
theorem xe:(Tryz.prog.info? 100).map (fun i=>(i.zero,i.size,i.bytes))=some (some (.agg #[ι 0,ι 0]),2,16):=by kernel_rfl
theorem Bi:∀(k j:Nat),j<k*2->(bh (List.replicate k aE))[j]?=some (ι 0)
 | 0,j,h=>by omega
 | k+1,0,_=>by rw [List.replicate_succ];rfl
 | k+1,1,_=>by rw [List.replicate_succ];rfl
 | k+1,j+2,h=>by
  rw [List.replicate_succ]
  show (bh (List.replicate k aE))[j]?=_
  exact Bi k j (by omega)
theorem Bj (k:Nat):madeCells #[ι 0,ι 0] (k*2)=(bh (List.replicate k aE)).toArray:=by
 apply Array.ext_getElem?
 intro j
 by_cases hj:j<k*2
 ·have h2:=Bi k j hj
  simp only [List.getElem?_toArray,h2]
  unfold madeCells
  have hm:j%2=0∨j%2=1:=by omega
  rcases hm with hm|hm<;>simp [hj,hm]
 ·rw [Array.getElem?_eq_none (by rw [size_madeCells];omega),Array.getElem?_eq_none (by simp [lz];omega)]
theorem Bk (n:Nat) (hn:n<=1000000) (u:World):(Instr.makeSlice 81 (ι (n:Int)) (ι (n:Int))).run Tryz.prog u=.ok (.slice (some ⟨u.heap.size,0,none⟩) n n) (u.alloc (.cells (bh (List.replicate n aE)).toArray 100)):=by
 obtain ⟨i,hi,hz,hs,hb⟩:=info_parts xe
 have h:=run_make u 81 100 i _ underlying81 hi hz .i64 .i64 (n:Int) (n:Int) (by omega) (Int.le_refl _) (by rw [hb];omega) (by omega)
 rw [hs] at h
 simp only [Int.toNat_natCast] at h
 rw [<-Bj]
 exact h
theorem Ks (n:Nat) (hn:n<=1000000) (u:World):(Instr.makeSlice 91 (ι (n:Int)) (ι (n:Int))).run Tryz.prog u=.ok (.slice (some ⟨u.heap.size,0,none⟩) n n) (u.alloc (.cells (bh (List.replicate n aE)).toArray 100)):=by
 obtain ⟨i,hi,hz,hs,hb⟩:=info_parts xe
 have h:=run_make u 91 100 i _ underlying91 hi hz .i64 .i64 (n:Int) (n:Int) (by omega) (Int.le_refl _) (by rw [hb];omega) (by omega)
 rw [hs] at h
 simp only [Int.toNat_natCast] at h
 rw [<-Bj]
 exact h
theorem cu.new (w:World) (l:List Va):cu (w.alloc (.cells (bh l).toArray 100)) w.heap.size l:=⟨aB _ _ _⟩
theorem dz.bl0 {Y:Nat->Prop} {qs:List Qb} (H:dz s X Y wx w0 g w h qs a c):Bl w0 w:=by
 obtain ⟨vc,vo,vx,vs,l,H,-⟩:=H
 exact H.rh.bl
def mr (l:List Ty):Bool:=l.any fun t=>decide (t.kind=3)
theorem xg {l:List Ty} {q:Nat} (hq:q<l.length) (h:(nth bS l q).kind=3):mr l=true:=by
 unfold mr;rw [List.any_eq_true];exact ⟨nth bS l q,bE hq,by simpa using h⟩
theorem Cu {l:List Ty} (h:∀q,q<l.length->(nth bS l q).kind≠3):mr l=false:=by
 unfold mr;rw [List.any_eq_false]
 intro x hx
 obtain ⟨k,hk,rfl⟩:=List.getElem_of_mem hx
 rw [<-cg (d:=bS) hk]
 simpa using h k hk
theorem C4 (A R:Option Addr) (cap n rc:Nat) (ts:List Ty) (w:World) (hT:cX w A ts) (hn:n<=maxLen) :
  χ 98 #[.slice A ts.length cap,.slice R n rc] w fun e w'=>e=.returned (.bool (!(mr ts)&&decide (n=ts.length)))/\Bl w w':=by
 have HT:=ae hT
 have Sj:=hT.1
 unfold maxLen at Sj hn
 clear hT
 have Qm:Θ (∀q,q<ts.length->(nth bS ts q).kind=3->mr ts=true):=fun q hq h=>xg hq h
 have MN:Θ ((∀q,q<ts.length->(nth bS ts q).kind≠3)->mr ts=false):=Cu
 obtain ⟨T,VT⟩:∃T,mr ts=T:=⟨_,rfl⟩
 rw [VT] at Qm MN ⊢
 clear VT
 have hd:decide (n=ts.length)=((n:Int)==(ts.length:Int)):=by rw [Bool.eq_iff_iff];simp;omega
 rw [hd]
 clear hd
 go_enter func98,ntmps98
 go_wp2
 go_loopw [9] (fun i wr=>∃q:Nat,q<=ts.length/\i=ι q/\Θ (∀j,j<q->(nth bS ts j).kind≠3)/\Θ (Bl w wr)) (fun i _=>ts.length-(intOf i).toNat)
 case atStart=>exact ⟨0,Nat.zero_le _,rfl,fun j hj=>absurd hj (Nat.not_lt_zero _),Bl.refl _⟩
 case round =>
  obtain ⟨q,hq,rfl,lq,hg⟩:=hrel
  by_cases dI:q<ts.length
  ·rcases (HT.o.bl hg.o).2 with z0|⟨b,off,rfl,hcell⟩
   ·omega
   obtain ⟨x0,x1,-,-⟩:=hcell q dI
   have HH:=ae (Qm.o q dI)
   generalize hX:nth bS ts q=t at *
   have HX:=ae hX
   clear hcell hX
   by_cases h3:t.kind=3
   ·have HF:=ae (HH.o h3)
    have k3:(t.kind==3)=true:=by simpa using h3
    have H3:=ae h3
    clear h3 HH
    go_wp2
    go_ret
    exact ⟨ag (by rw [HF.o];rfl),hg.o.alloc _⟩
   ·have k3:(t.kind==3)=false:=by simpa using h3
    have H3:Θ (¬t.kind=3):=h3
    clear h3 HH
    go_wp2
    go_roundw
    case rel=>exact ⟨q+1,by omega,by go_num,fun j hj=>if h:j<q then lq.o j h else by have:j=q:=(by omega);subst this;rw [HX.o];exact H3.o,hg.o.alloc _⟩
    case measure=>simp [intOf];omega
  ·obtain rfl:q=ts.length:=by omega
   have HF:=ae (MN.o lq.o)
   go_wp2
   all_goals
    go_ret
    refine ⟨ag ?_,hg.o⟩
    rw [HF.o]
    simp [*]
def PH (ts:List Ty) (args:List Int) (j:Nat):Va:=⟨(nth bS ts j).kind,if (nth bS ts j).kind=1 then wrap32 (nth (0:Int) args j) else nth (0:Int) args j⟩
def lI (ts:List Ty) (args:List Int) (q:Nat):List Va:=(List.range ts.length).map (fun j=>if j<q then PH ts args j else aE)
section
variable (ts:List Ty) (args:List Int)
theorem FV:lI ts args 0=List.replicate ts.length aE:=by
 unfold lI
 apply List.ext_getElem
 ·simp
 ·intro i h1 h2;simp
theorem du (q:Nat):(lI ts args q).length=ts.length:=by simp [lI]
theorem Kt (q:Nat):(lI ts args q).set q (PH ts args q)=lI ts args (q+1):=by
 unfold lI
 apply List.ext_getElem
 ·simp
 ·intro i h1 h2
  simp only [List.getElem_set,List.getElem_map,List.getElem_range]
  by_cases hi:q=i
  ·subst hi;simp
  ·rw [if_neg hi]
   by_cases hlt:i<q
   ·rw [if_pos hlt,if_pos (by omega)]
   ·rw [if_neg hlt,if_neg (by omega)]
end
theorem y9 (A R:Option Addr) (cap n rc:Nat) (ts:List Ty) (args:List Int) (w:World) (hT:cX w A ts) (hR:aU w R args) (hl:args.length=ts.length) (h4:ts.length<=4) (hk:∀q,q<ts.length->(nth bS ts q).kind=1∨(nth bS ts q).kind=2) :
  χ 46 #[.slice A ts.length cap,.slice R args.length rc] w fun e w'=>e=.returned (.slice (some ⟨w.heap.size,0,none⟩) ts.length ts.length)/\cu w' w.heap.size (lI ts args ts.length)/\Bl w w':=by
 have HT:=ae hT
 have HR:=ae hR
 have HK:=ae hk
 have NL:=Bk ts.length (by omega)
 have HS:Θ (Bl w (w.alloc (.cells (bh (List.replicate ts.length aE)).toArray 100))/\cu (w.alloc (.cells (bh (List.replicate ts.length aE)).toArray 100)) w.heap.size (lI ts args 0)) :=
  ⟨(Bl.refl w).alloc _,by rw [FV];exact cu.new w _⟩
 rw [hl]
 have HL:=ae hl
 clear hT hR hk hl
 go_enter func46,ntmps46
 go_wp2
 go_loopw [13] (fun i wr=>∃q:Nat,q<=ts.length/\i=ι q/\Θ (Bl w wr/\cu wr w.heap.size (lI ts args q))) (fun i _=>ts.length-(intOf i).toNat)
 case atStart=>exact ⟨0,Nat.zero_le _,rfl,HS.o⟩
 case round =>
  clear HS NL
  obtain ⟨q,hq,rfl,HB⟩:=hrel
  by_cases dI:q<ts.length
  ·rcases (HT.o.bl HB.o.1).2 with z0|⟨tb,to,rfl,hcell⟩
   ·omega
   rcases (HR.o.bl HB.o.1).2 with z0|⟨rb,ro,rfl,hrc⟩
   ·have:=HL.o;omega
   obtain ⟨x0,x1,-,-⟩:=hcell q dI
   obtain ⟨y0,-⟩:=hrc q (by rw [HL.o];exact dI)
   have Yd:=HK.o q dI
   have Qn:=ae (Kt ts args q)
   have VU:Θ (PH ts args q=⟨(nth bS ts q).kind,if (nth bS ts q).kind=1 then wrap32 (nth (0:Int) args q) else nth (0:Int) args q⟩):=rfl
   generalize hX:nth bS ts q=t at *
   generalize hY:nth (0:Int) args q=a at *
   clear hcell hrc hX hY
   have Tz:rb<w.heap.size:=by
    rcases HR.o.2 with z0|⟨Ye,Yf,ee,hrc⟩
    ·have:=HL.o;omega
    ·cases ee
     exact br (hrc q (by rw [HL.o];exact dI)).1
   have VW:w.heap.size≠rb:=by omega
   have Yg:rb≠w.heap.size:=by omega
   have TA:∀o,(wr.alloc o).cell? ⟨rb,ro+q,none⟩=some (ι a):=fun o=>((Bl.refl wr).alloc o).cell y0
   have hlt:=af HB.o.2.blk
   have hne:w.heap.size≠wr.heap.size:=by omega
   have NM:wr.heap.size≠w.heap.size:=by omega
   have JG:=ae (aB wr #[ι t.kind,ι t.cls] 45)
   have VX:q<(lI ts args q).length:=by rw [du];exact dI
   have C5:=ae VX
   have mG:Θ (Bl wr (wr.alloc (iv t))):=(Bl.refl wr).alloc _
   clear VX
   have VY:Θ (∀w1,Bl (wr.alloc (iv t)) w1->cu w1 w.heap.size (lI ts args q)/\w1.cell? ⟨wr.heap.size,0,none⟩=some (ι t.kind)):=fun w1 b1=>⟨HB.o.2.bl (mG.o.trans b1),aO (ax b1 JG.o)⟩
   rcases Yd with h1|h2
   ·have tl:=ae h1
    have k1:(t.kind==1)=true:=by simpa using h1
    clear h1
    obtain ⟨N,hN⟩:∃N,wrap32 a=N:=⟨_,rfl⟩
    have HN:=ae hN
    go_wp2_with (first
     | (have:=L2;go_at_call 102;refine (kG _ _).mono ?_;rintro e w5 ⟨he,kI⟩;rw [hN] at he;subst he;rw [kI];clear kI w5)
     | (have:=L2;go_at_call 101;refine (j7 N _).mono ?_;rintro e w3 ⟨rfl,b3⟩;have L3:=L2.o.bl b3;have z0:=L3.c0 (i:=q) (by rw [List.length_set];exact C5.o);have z1:=L3.c1 (i:=q) (by rw [List.length_set];exact C5.o);have TB:=aA L3.blk;replace b3:=ae b3;have L3:=ae L3)
     | (go_at_call 100;refine (j8 a _).mono ?_;rintro e w1 ⟨rfl,b1⟩;obtain ⟨L1,kt⟩:=VY.o w1 b1;have v0:=L1.c0 C5.o;have v1:=L1.c1 C5.o;have Vu:=aA L1.blk;have L2:=ae (L1.set C5.o ⟨2,a⟩);have y5:=(mG.o.trans b1).cell y0;replace b1:=ae b1;replace L1:=ae L1))
    go_roundw
    case rel =>
     refine ⟨q+1,by omega,by go_num,?_,?_⟩
     ·have h1:Bl w w1:=(HB.o.1.trans mG.o).trans b1.o
      have h2:=(h1.setCell (p:=⟨w.heap.size,q*2,none⟩) (Nat.le_refl _) (ι 2)).setCell (p:=⟨w.heap.size,q*2+1,none⟩) (Nat.le_refl _) (ι a)
      have h3:=h2.trans b3.o
      exact (h3.setCell (p:=⟨w.heap.size,q*2,none⟩) (Nat.le_refl _) _).setCell (p:=⟨w.heap.size,q*2+1,none⟩) (Nat.le_refl _) _
     ·have:=L3.o.set (i:=q) (by rw [List.length_set];exact C5.o) ⟨1,N⟩
      rw [List.set_set] at this
      rw [<-Qn.o,VU.o,tl.o,if_pos rfl,HN.o]
      exact this
    case measure=>simp [intOf];omega
   ·have Eu:=ae h2
    have k1:(t.kind==1)=false:=by rw [h2];rfl
    clear h2
    go_wp2_with (first
     | (go_at_call 100;refine (j8 a _).mono ?_;rintro e w1 ⟨rfl,b1⟩;obtain ⟨L1,kt⟩:=VY.o w1 b1;have v0:=L1.c0 C5.o;have v1:=L1.c1 C5.o;have Vu:=aA L1.blk;have L2:=ae (L1.set C5.o ⟨2,a⟩);replace b1:=ae b1;replace L1:=ae L1))
    go_roundw
    case rel =>
     refine ⟨q+1,by omega,by go_num,?_,?_⟩
     ·have h1:Bl w w1:=(HB.o.1.trans mG.o).trans b1.o
      exact (h1.setCell (p:=⟨w.heap.size,q*2,none⟩) (Nat.le_refl _) _).setCell (p:=⟨w.heap.size,q*2+1,none⟩) (Nat.le_refl _) _
     ·rw [<-Qn.o,VU.o,Eu.o,if_neg (by decide)]
      exact L2.o
    case measure=>simp [intOf];omega
  ·obtain rfl:q=ts.length:=by omega
   go_wp2
   go_ret
   exact ⟨rfl,HB.o.2,HB.o.1⟩
theorem qX (w:World) (a b:Array Value) (s t:TypeId):((w.alloc (.cells a s)).alloc (.cells b t)).heap[w.heap.size]?=some (.cells a s (0,0))/\((w.alloc (.cells a s)).alloc (.cells b t)).heap[w.heap.size+1]?=some (.cells b t (0,0)):=by
 have h1:(w.alloc (.cells a s)).heap.size=w.heap.size+1:=by simp
 refine ⟨?_,?_⟩
 ·rw [Below.heap_alloc _ _ _ (by omega)];exact aB _ _ _
 ·rw [<-h1];exact aB _ _ _
theorem FX (hb:Nat) (v:Va) (cc:Int) (w:World) (hk:v.kind=3) (hv:v.n=-1) :
  χ 186 #[π hb 0,cm (im v),ι cc] w fun e w'=>e=.returned (cm (im v))/\Bl w w':=by
 have HN:Θ (wY (im v)=true):=l5 hk hv
 obtain ⟨L0,L1⟩:=qX w #[ι (im v).kind,ι (im v).n] #[ι 0,ι 0] 100 100
 have dK:=ae L0
 have ey:=ae L1
 have HB:Θ (Bl w ((w.alloc (eS (im v))).alloc fa)):=((Bl.refl w).alloc _).alloc _
 clear hk hv L0 L1
 go_enter func186,ntmps186
 go_wp2_with (go_at_call 90;refine (cB (im v) _).mono ?_;rintro e w2 ⟨he,b2⟩;rw [HN.o] at he;subst he;have q0:=ax b2 dK.o;have q1:=ax b2 ey.o;have c0:=aO q0;have c1:=aJ q0;have c4:=aO q1;have c5:=aJ q1;have fz:=aA q1;replace b2:=ae b2;replace q1:=ae q1;clear q0)
 refine bodyPost_ret (results_cell_row rfl _ _ (w.heap.size+1) _ _ _ _ rfl (ba q1.o) underlying100 rfl au) rfl ?_
 exact ⟨rfl,cT (HB.o.trans b2.o) (Nat.le_succ _) _ _⟩
theorem FY (g:Mg) (h:Hp) (v:Va) (cc:Int) (w:World) (R:qh w g h) (hk:v.kind=3) (hv:0<=v.n) (hn:v.n<h.objs.length) (hz:fu h.file.classes (h.obj v.n).cls cc=true) :
  χ 186 #[π g.hb 0,cm (im v),ι cc] w fun e w'=>e=.returned (cm (im v))/\Bl w w':=by
 have HN:Θ (wY (im v)=false):=lH hk hv
 have HV:Θ (v.kind=3/\0<=v.n/\v.n<h.objs.length):=⟨hk,hv,hn⟩
 have HZ:=ae hz
 have HR:=ae R
 obtain ⟨L0,L1⟩:=qX w #[ι (im v).kind,ι (im v).n] #[ι 0,ι 0] 100 100
 have dK:=ae L0
 have ey:=ae L1
 have HB:Θ (Bl w ((w.alloc (eS (im v))).alloc fa)):=((Bl.refl w).alloc _).alloc _
 clear hk hv hn hz R L0 L1
 go_enter func186,ntmps186
 go_wp2_with (first
  | (go_at_call 90;refine (cB (im v) _).mono ?_;rintro e w2 ⟨he,b2⟩;rw [HN.o] at he;subst he;have q0:=ax b2 dK.o;have q1:=ax b2 ey.o;have c0:=aO q0;have c1:=aJ q0;replace b2:=ae b2;replace q1:=ae q1;replace q0:=ae q0)
  | (go_at_call 154;refine (jf g h v cc _ (HR.o.bl (HB.o.trans b2.o)) HV.o.1 HV.o.2.1 HV.o.2.2).mono ?_;rintro e w3 ⟨he,b3⟩;rw [HZ.o] at he;subst he;replace q0:=ae (ax b3 q0.o);replace q1:=ae (ax b3 q1.o);replace b2:=ae (b2.o.trans b3);clear c0 c1;have c0:=aO q0.o;have c1:=aJ q0.o;have c4:=aO q1.o;have c5:=aJ q1.o;have fz:=aA q1.o))
 refine bodyPost_ret (results_cell_row rfl _ _ (w.heap.size+1) _ _ _ _ rfl (ba q1.o) underlying100 rfl au) rfl ?_
 exact ⟨rfl,cT (HB.o.trans b2.o) (Nat.le_succ _) _ _⟩
theorem Kv (s:Nat) (X:Nat->Prop) (wx w0:World) (g:Mg) (h:Hp) (qs:List Qb) (a:Mc) (c:aL) (v:Va) (cc:Int) (w:World) (H:RX s X wx w0 g w h qs a c) (F:Fix w0 g h) (hl:h.objs.length<=100) (ho:h.over=false) (hk:v.kind=3) (hv:0<=v.n) (hn:v.n<h.objs.length) (hz:fu h.file.classes (h.obj v.n).cls cc=false) :
  χ 186 #[π g.hb 0,cm (im v),ι cc] w fun e w'=>e=cU h/\RX s X wx w0 g w' (h.raise 3) qs a c:=by
 have HN:Θ (wY (im v)=false):=lH hk hv
 have HV:Θ (v.kind=3/\0<=v.n/\v.n<h.objs.length):=⟨hk,hv,hn⟩
 have HZ:=ae hz
 have HH:=ae H
 have HL:=ae (And.intro hl ho)
 have HR:=ae (H.rd F hl)
 obtain ⟨L0,L1⟩:=qX w #[ι (im v).kind,ι (im v).n] #[ι 0,ι 0] 100 100
 have dK:=ae L0
 have HB:Θ (Bl w ((w.alloc (eS (im v))).alloc fa)):=((Bl.refl w).alloc _).alloc _
 obtain ⟨E,hE⟩:∃E,cU h=E:=⟨_,rfl⟩
 have HE:=ae hE
 rw [hE]
 have HX:Θ (∃ch,E=.panicked ch):=by
  rw [<-hE];unfold cU;split<;>exact ⟨_,rfl⟩
 clear hk hv hn hz L0 L1 H F hl ho hE
 obtain ⟨ch,rfl⟩:=HX.o
 go_enter func186,ntmps186
 go_wp2_with (first
  | (go_at_call 90;refine (cB (im v) _).mono ?_;rintro e w2 ⟨he,b2⟩;rw [HN.o] at he;subst he;have q0:=ax b2 dK.o;have c0:=aO q0;have c1:=aJ q0;replace b2:=ae b2;clear q0)
  | (go_at_call 154;refine (jf g h v cc _ (HR.o.bl (HB.o.trans b2.o)) HV.o.1 HV.o.2.1 HV.o.2.2).mono ?_;rintro e w3 ⟨he,b3⟩;rw [HZ.o] at he;subst he;replace b2:=ae (b2.o.trans b3))
  | (go_at_call 199;refine (gy s X wx w0 g h qs a c 3 _ (HH.o.bl (HB.o.trans b2.o)) HL.o.1 HL.o.2).mono ?_;rintro e w4 ⟨he,H4⟩;rw [HE.o] at he;subst he;replace H4:=ae H4))
 exact ⟨rfl,rfl,H4.o⟩
theorem xh (k op:Int) (a b:Va) (hk:k=1∨k=2) (w:World):χ (if k=1 then 246 else 245) #[ι op,ι a.n,ι b.n] w fun e w'=>e=.returned (.tuple #[ι (lB k op a b),.bool (qK k op a b)])/\w'=w:=by
 unfold lB qK
 rcases hk with rfl|rfl
 ·rw [if_pos rfl,if_pos rfl,if_pos rfl];exact Kb op a.n b.n w
 ·rw [if_neg (by decide),if_neg (by decide),if_neg (by decide)];exact wS op a.n b.n w
theorem za (hb:Nat) (k op:Int) (a b:Va) (hk:k=1∨k=2) (hr:qK k op a b=true) (w:World) :
  χ 231 #[π hb 0,ι k,ι op,cm a,cm b] w fun e w'=>e=.returned (cm ⟨k,lB k op a b⟩)/\Bl w w':=by
 obtain ⟨L0,L1,L2⟩:=dB w #[ι a.kind,ι a.n] #[ι b.kind,ι b.n] #[ι 0,ι 0] 100 100 100
 have c0:=aJ L0
 have c1:=aJ L1
 have c4:=aO L2
 have c5:=aJ L2
 have fz:=aA L2
 have wZ:=ae L2
 have HB:Θ (Bl w (((w.alloc (eS a)).alloc (eS b)).alloc fa)):=(((Bl.refl w).alloc _).alloc _).alloc _
 have HW:=ae (xh k op a b hk)
 have HR:=ae hr
 clear L0 L1 L2 hr
 rcases hk with rfl|rfl
 ·rw [if_pos rfl] at HW
  go_enter func231,ntmps231
  go_wp2_with (go_at_call 246;refine (HW.o _).mono ?_;rintro e w2 ⟨he,hw⟩;rw [HR.o] at he;subst he;rw [hw];clear hw w2)
  refine bodyPost_ret (results_cell_row rfl _ _ (w.heap.size+1+1) _ _ _ _ rfl (dB w _ _ _ _ _ _).2.2 underlying100 rfl au) rfl ?_
  exact ⟨rfl,(((Bl.refl w).alloc _).alloc _).alloc _⟩
 ·rw [if_neg (by decide)] at HW
  go_enter func231,ntmps231
  go_wp2_with (go_at_call 245;refine (HW.o _).mono ?_;rintro e w2 ⟨he,hw⟩;rw [HR.o] at he;subst he;rw [hw];clear hw w2)
  refine bodyPost_ret (results_cell_row rfl _ _ (w.heap.size+1+1) _ _ _ _ rfl (dB w _ _ _ _ _ _).2.2 underlying100 rfl au) rfl ?_
  exact ⟨rfl,(((Bl.refl w).alloc _).alloc _).alloc _⟩
theorem C6 (s:Nat) (X:Nat->Prop) (wx w0:World) (g:Mg) (h:Hp) (qs:List Qb) (a:Mc) (c:aL) (k op:Int) (u v:Va) (hk:k=1∨k=2) (hr:qK k op u v=false) (w:World) (H:RX s X wx w0 g w h qs a c) (hl:h.objs.length<=100) (ho:h.over=false) :
  χ 231 #[π g.hb 0,ι k,ι op,cm u,cm v] w fun e w'=>e=cU h/\RX s X wx w0 g w' (h.raise 2) qs a c:=by
 obtain ⟨L0,L1,L2⟩:=dB w #[ι u.kind,ι u.n] #[ι v.kind,ι v.n] #[ι 0,ι 0] 100 100 100
 have c0:=aJ L0
 have c1:=aJ L1
 have HB:Θ (Bl w (((w.alloc (eS u)).alloc (eS v)).alloc fa)):=(((Bl.refl w).alloc _).alloc _).alloc _
 have HW:=ae (xh k op u v hk)
 have HR:=ae hr
 have HH:=ae H
 have HL:=ae (And.intro hl ho)
 obtain ⟨E,hE⟩:∃E,cU h=E:=⟨_,rfl⟩
 have HE:=ae hE
 rw [hE]
 have HX:Θ (∃ch,E=.panicked ch):=by
  rw [<-hE];unfold cU;split<;>exact ⟨_,rfl⟩
 clear L0 L1 L2 hr H hl ho hE
 obtain ⟨ch,rfl⟩:=HX.o
 rcases hk with rfl|rfl
 ·rw [if_pos rfl] at HW
  go_enter func231,ntmps231
  go_wp2_with (first
   | (go_at_call 246;refine (HW.o _).mono ?_;rintro e w2 ⟨he,hw⟩;rw [HR.o] at he;subst he;rw [hw];clear hw w2)
   | (go_at_call 199;refine (gy s X wx w0 g h qs a c 2 _ (HH.o.bl HB.o) HL.o.1 HL.o.2).mono ?_;rintro e w4 ⟨he,H4⟩;rw [HE.o] at he;subst he;replace H4:=ae H4))
  exact ⟨rfl,rfl,H4.o⟩
 ·rw [if_neg (by decide)] at HW
  go_enter func231,ntmps231
  go_wp2_with (first
   | (go_at_call 245;refine (HW.o _).mono ?_;rintro e w2 ⟨he,hw⟩;rw [HR.o] at he;subst he;rw [hw];clear hw w2)
   | (go_at_call 199;refine (gy s X wx w0 g h qs a c 2 _ (HH.o.bl HB.o) HL.o.1 HL.o.2).mono ?_;rintro e w4 ⟨he,H4⟩;rw [HE.o] at he;subst he;replace H4:=ae H4))
  exact ⟨rfl,rfl,H4.o⟩
section
open Go.Maps (Keyed has)
theorem C7:(Tryz.prog.info? 2).map (fun i=>(i.zero,i.size,i.bytes))=some (some (ι 0),1,8):=by kernel_rfl
theorem RH.runCells {qs:List Qb} (H:RH s w0 g w h qs vc vo vx) :
  w.cell? ⟨g.r,0,none⟩=some (π g.hb 0)/\w.cell? ⟨g.r,1,none⟩=some (.slice g.M h.file.methods.length g.m)/\w.cell? ⟨g.r,2,none⟩=some (.func (.func 31) #[] #[])/\w.cell? ⟨g.r,3,none⟩=some vc
  /\ w.cell? ⟨g.r,4,none⟩=some (.slice g.I h.input.length g.i)/\w.cell? ⟨g.r,5,none⟩=some (ι h.fuel)/\w.cell? ⟨g.r,6,none⟩=some (ι h.sh.steps)/\w.cell? ⟨g.r,7,none⟩=some (ι h.sh.used)/\w.cell? ⟨g.r,8,none⟩=some vx:=by
 refine ⟨?_,?_,?_,?_,?_,?_,?_,?_,?_⟩<;>(rw [ab H.run];rfl)
def Hp.outs (h:Hp) (n:Int):Hp:={ h with sh:={ h.sh with o:=h.sh.o++[n] } }
def Hp.uses (h:Hp):Hp:={ h with sh:={ h.sh with used:=h.sh.used+1 } }
theorem oI.emit {w2:World} {qs:List Qb} {v':Value} (H:oI s X wx w0 g w h qs a c vc vo vx vs l) (hg:w.grownBy w2 vx.ownBlock) {k:Int} (ho:w2.ownsRow w0.heap.size 2 1 v' (h.sh.o.length+1) (h.sh.o.map (Value.int .i64)++[ι k])) (hat:v'.ownBlock=vx.ownBlock∨∀b,v'.ownBlock=some b->w.heap.size<=b) :
  oI s X wx w0 g (w2.setCell ⟨g.r,8,none⟩ v') (h.outs k) qs a c vc vo v' vs l:=by
 have R:=H.rh
 obtain ⟨n,D,F⟩:=R.fld
 obtain ⟨fr,fh,fm,fc,fo,fx⟩:=H.ca.farC R
 have hrow:∀b,vx.ownBlock=some b->w0.heap.size<=b:=fun b e=>(R.o.lt b e).1
 have n1:vx.ownBlock≠some g.r:=bg R.o R.run (by decide)
 have n2:vx.ownBlock≠some g.hb:=bg R.o R.hp (by decide)
 have n3:vx.ownBlock≠some g.mp:=l4 R.o F.own
 have nM:=aV hg R.run n1
 have eF:=cD (w:=w2) g.r 8 v'
 have Qk:(some g.r:Option Nat)≠some g.hb:=fun e=>cC R.hp R.run (by decide) (Option.some.inj e).symm
 have TC:g.r≠g.mp:=iE R.run F.own
 have hne:∀(vv:Value) {b e sz nn xs},w.ownsRow b e sz vv nn xs->e≠2->vv.ownBlock=none∨vv.ownBlock≠vx.ownBlock:=fun vv b e sz nn xs hr he=>vh hr R.o he
 have C2:=H.ca.kept hg (fun b e=>fx b e)
 have NJ:∀b,X b->lj g vc vo v' b:=fun b hx=>⟨(H.farr b hx).r,(H.farr b hx).h,(H.farr b hx).m,(H.farr b hx).c,(H.farr b hx).o,fun e=>by
  rcases hat with q|q
  ·rw [q] at e;exact (H.farr b hx).x e
  ·have:=q b e;have:=(H.kept.blk b hx).1;have:=H.kept.size;omega⟩
 refine ⟨⟨R.ownr,R.ownh,R.ownm,?_,?_,?_,?_,?_,?_,n,D,?_⟩,?_,NJ,H.farc,?_⟩
 ·exact Below.setCell (Below.grown R.bl hg R.bl.size hrow) R.ownr _
 ·rw [ay nM];rfl
 ·exact aV eF (aV hg R.hp n2) Qk
 ·have:=ho.kept eF (Or.inr (bg ho nM (by decide)))
  simpa [Hp.outs] using this
 ·exact (R.obs.kept hg (hne vo R.obs (by decide))).kept eF (Or.inr (bg (R.obs.kept hg (hne vo R.obs (by decide))) nM (by decide)))
 ·exact (R.calls.kept hg (hne vc R.calls (by decide))).kept eF (Or.inr (bg (R.calls.kept hg (hne vc R.calls (by decide))) nM (by decide)))
 ·exact ⟨(F.own.kept hg (fun e=>n3 e.symm)).kept eF (fun e=>TC (Option.some.inj e).symm),F.few,F.hit,F.miss,F.new,F.ks,F.kd⟩
 ·exact C2.kept eF (fun b e=>by cases e;exact ⟨fr.q,fr.l,fr.s,fr.x⟩)
 ·exact (H.kept.kept hg (fun b e hx=>(H.farr b hx).x e)).kept eF (fun b e hx=>by cases e;exact (H.farr _ hx).r rfl)
theorem oI.setr {s':Nat} {h':Hp} {qs:List Qb} {v':Value} (H:oI s X wx w0 g w h qs a c vc vo vx vs l) {i:Nat} (hrow:(gP g h vc vx).setIfInBounds i v'=gP g h' vc vx) (e1:h'.file=h.file) (e2:h'.objs=h.objs) (e3:h'.sh.o=h.sh.o) (e4:h.sh.steps-s<=h'.sh.steps-s'):oI s' X wx w0 g (w.setCell ⟨g.r,i,none⟩ v') h' qs a c vc vo vx vs l:=by
 have R:=H.rh
 obtain ⟨n,D,F⟩:=R.fld
 obtain ⟨fr,-⟩:=H.ca.farC R
 have eF:=cD (w:=w) g.r i v'
 have Qk:(some g.r:Option Nat)≠some g.hb:=fun e=>cC R.hp R.run (by decide) (Option.some.inj e).symm
 have TC:g.r≠g.mp:=iE R.run F.own
 have r2:fA g h' vo=fA g h vo:=by unfold fA;rw [e1]
 refine ⟨⟨R.ownr,R.ownh,R.ownm,Below.setCell R.bl R.ownr _,?_,?_,?_,?_,?_,n,D,?_⟩,H.ca.kept eF (fun b e=>by cases e;exact fr),H.farr,H.farc,H.kept.kept eF (fun b e hx=>by cases e;exact (H.farr _ hx).r rfl)⟩
 ·rw [ay R.run,hrow]
 ·rw [r2];exact aV eF R.hp Qk
 ·rw [e3];exact R.o.kept eF (Or.inr (bg R.o R.run (by decide)))
 ·rw [e2];exact R.obs.kept eF (Or.inr (bg R.obs R.run (by decide)))
 ·exact R.calls.kept eF (Or.inr (bg R.calls R.run (by decide)))
 ·exact ⟨F.own.kept eF (fun e=>TC (Option.some.inj e).symm),by have:=F.few;omega,by rw [e2];exact F.hit,by rw [e2,e1];exact F.miss,by rw [e2];exact F.new,by rw [e2,e1];exact F.ks,by rw [e2,e1];exact F.kd⟩
section
variable (s:Nat) (X:Nat->Prop) (wx w0:World) (g:Mg) (h:Hp)
theorem C8 (qs:List Qb) (a:Mc) (c:aL) (v:Va) (w:World) (H:RX s X wx w0 g w h qs a c) (ho:h.sh.o.length<=100000) :
  χ 150 #[π g.r 0,cm v] w fun e w'=>e=.returned (.tuple #[])/\RX s X wx w0 g w' (h.outs v.n) qs a c:=by
 obtain ⟨i0,wC,vl,wD,wE⟩:=info_parts C7
 have dX:=H.size
 obtain ⟨vc,vo,vx,vs,l,H⟩:=H
 obtain ⟨A,cap,Yh,h1,h2⟩:=jg H.rh.o
 subst Yh
 have HH:=ae (H.bl ((Bl.refl w).alloc (eS v)))
 have HL:=ae (aB w #[ι v.kind,ι v.n] 100)
 have x1:=aJ HL.o
 have PF:=H.rh.o
 have c8:=HH.o.rh.runCells.2.2.2.2.2.2.2.2
 have fz:=aA HH.o.rh.run 8
 have hq:=af H.rh.run
 have HO:=ae HH.o.rh.o
 have HP:=ae (HH.o.rh.run)
 have PG:Θ ((Value.slice A h.sh.o.length cap).ownBlock≠some w.heap.size):=fun e=>by have:=mO PF e;omega
 have Ts:=ae (bg HO.o HP.o (by decide))
 clear H PF
 go_enter func150,ntmps150
 go_wp2
 go_region_law ((refine step_append_lies _ (by rfl) _ _ _ (by rfl) w0.heap.size 2 i0 _ 1 8 underlying26 wC vl wD wE rfl (by omega) (.slice A h.sh.o.length cap) h.sh.o.length (h.sh.o.map (Value.int .i64)) (by rfl) ((HO.o.alloc _).drew) ⟨w.heap.size+1,0,none⟩ 1 1 [ι v.n] (by rfl) (by rfl) (World.news_of_block (cs:=#[ι v.n]) (t:=2) (fr:=(0,0)) (by rw [<-MM w (eS v)];exact aB _ _ _)) (by simp [Value.oneCell']) (by omega) (by unfold maxLen;omega) (by omega) (by simp;omega) _ rfl ?_;intro gb cp w1 kH bO hat vm;have pF:=aV bO ((Below.heap_alloc _ _ _ (af HP.o)).trans HP.o) Ts.o;have dQ:=aV bO ((Below.heap_alloc _ _ _ (af HL.o)).trans HL.o) PG.o;have q8:w1.cell? ⟨g.r,8,none⟩=some (.slice A h.sh.o.length cap):=(ab pF).trans rfl;have z8:=aA pF 8;have y1:=aJ dQ;have dI:=af pF;replace kH:=ae kH;replace bO:=ae bO;replace hat:=ae hat;clear dQ pF))
 all_goals
  go_wp2
  go_end0
  exact ⟨rfl,_,_,_,_,_,oI.emit (HH.o.bl (((Bl.refl _).alloc _).drew)) bO.o kH.o (hat.o.elim (fun e=>Or.inl e.symm) (fun e=>Or.inr fun b hb=>Nat.le_of_eq (e.symm.trans (by simpa [Value.ownBlock] using hb))))⟩
theorem NN (qs:List Qb) (a:Mc) (c:aL) (w:World) (H:RX s X wx w0 g w h qs a c) (hd:h.dry=true) :
  χ 151 #[π g.r 0] w fun e w'=>e=bF 3 0 0/\RX s X wx w0 g w' h qs a c:=by
 have HH:=ae H
 obtain ⟨vc,vo,vx,vs,l,H⟩:=H
 have c4:=H.rh.runCells.2.2.2.2.1
 have c7:=H.rh.runCells.2.2.2.2.2.2.2.1
 have hq:=af H.rh.run
 have Ya:(h.input.length:Int)<=h.sh.used:=of_decide_eq_true hd
 clear H hd
 go_enter func151,ntmps151
 go_wp2
 go_quiet (fail)
 go_wp2_with (go_at_call 99;refine (ly 3 _).mono ?_;rintro e w1 ⟨rfl,hw⟩;rw [hw];clear hw w1)
 exact ⟨rfl,rfl,HH.o.bl (aR ((Bl.refl w).alloc _) _)⟩
theorem Kw (qs:List Qb) (a:Mc) (c:aL) (w:World) (H:RX s X wx w0 g w h qs a c) (hI:aU w0 g.I h.input) (hd:h.dry=false) (hu:0<=h.sh.used) (hl:h.input.length<=1000000) :
  χ 151 #[π g.r 0] w fun e w'=>e=.returned (cm ⟨2,nth (0:Int) h.input h.sh.used.toNat⟩)/\RX s X wx w0 g w' h.uses qs a c:=by
 have hlt:h.sh.used<(h.input.length:Int):=by have:=of_decide_eq_false hd;omega
 obtain ⟨u,Sk⟩:∃u:Nat,h.sh.used=u:=⟨h.sh.used.toNat,by omega⟩
 have NP:u<h.input.length:=by omega
 rcases hI.2 with h0|⟨ib,io,TD,hic⟩
 ·omega
 have hx:=(hic u NP).1
 have e1:h.sh.used.toNat=u:=by omega
 rw [e1]
 have dX:=H.size
 obtain ⟨vc,vo,vx,vs,l,H⟩:=H
 have HH:=ae (H.bl ((Bl.refl w).alloc fa))
 have HL:=ae (aB w #[ι 0,ι 0] 100)
 have c4:=H.rh.runCells.2.2.2.2.1
 have c7:=H.rh.runCells.2.2.2.2.2.2.2.1
 have fz:=aA H.rh.run
 have hq:=af H.rh.run
 have xi:=Bl.cell H.rh.bl hx
 have Sl:=br xi
 have Yi:ib≠g.r:=by have h1:=br hx;have h2:=H.rh.ownr;omega
 have V0:Θ (∀nq,oI s X wx w0 g (((w.alloc fa).drewN nq).setCell ⟨g.r,7,none⟩ (ι ((u:Int)+1))) h.uses qs a c vc vo vx vs l):=fun nq=>oI.setr (HH.o.bl (aR (Bl.refl _) nq)) (by unfold gP Hp.uses;simp [Sk]) rfl rfl rfl (Int.le_refl _)
 have V3:g.r≠w.heap.size:=by omega
 rw [TD] at c4
 rw [Sk] at c7 hlt
 have hu0:(0:Int)<=(u:Int):=by omega
 have Yj:(u:Int)<(h.input.length:Int):=by omega
 have C9:((u:Int)+1-1)=(u:Int):=by omega
 have hw1:IntKind.i64.wrap (u:Int)=(u:Int):=by rw [IntKind.wrap_i64];omega
 have yZ:=ae (H.rh.farNew (Nat.le_refl _))
 have NK:=ae (H.ca.farNew (Nat.le_refl _))
 have Tt:Θ (¬X w.heap.size):=fun hx=>by have:=(H.kept.blk _ hx).1;have:=H.kept.size;omega
 have Yk:=ae hx
 have HU:=ae Sk
 have HI:=ae TD
 clear H hd hu hic hx hI Sk e1 TD
 generalize nth (0:Int) h.input u=V at *
 go_enter func151,ntmps151
 go_wp2
 go_quiet (fail)
 go_wp2
 have HA:=V0.o nq
 have b0:(((w.alloc fa).drewN nq).setCell ⟨g.r,7,none⟩ (ι ((u:Int)+1))).heap[w.heap.size]?=some (.cells #[ι 0,ι 0] 100 (0,0)):=qV HL.o (fun e=>V3 e.symm) _
 generalize (((w.alloc fa).drewN nq).setCell ⟨g.r,7,none⟩ (ι ((u:Int)+1)))=W at *
 have k4:=HA.rh.runCells.2.2.2.2.1
 have k7:=HA.rh.runCells.2.2.2.2.2.2.2.1
 have ki:=Bl.cell HA.rh.bl Yk.o
 have e7:h.uses.sh.used=(u:Int)+1:=by unfold Hp.uses;dsimp only;rw [HU.o]
 have e4:h.uses.input=h.input:=rfl
 rw [e7] at k7
 rw [e4,HI.o] at k4
 have hwl:=af b0
 have n1:w.heap.size≠g.r:=fun e=>V3 e.symm
 have n2:w.heap.size≠ib:=by omega
 replace HA:=ae HA
 replace b0:=ae b0
 clear V0 e7 e4
 go_region_held3 (fun w'=>w'.cell? ⟨g.r,4,none⟩=some (.slice (some ⟨ib,io,none⟩) h.input.length g.i)/\w'.cell? ⟨g.r,7,none⟩=some (ι ((u:Int)+1))/\w'.cell? ⟨ib,io+u,none⟩=some (ι V))
  (go_keep)
  (first
   | (go_at_call 100;refine (j8 V _).mono ?_;rintro e w2 ⟨rfl,b2⟩;have d4:=b2.cell k4;have d7:=b2.cell k7;have di:=b2.cell ki;have q0:=ax b2 b0.o;have r0:=aO q0;have r1:=aJ q0;have rz:=aA q0;replace b2:=ae b2;replace q0:=ae q0))
 go_wp2
 refine bodyPost_ret (results_cell_row rfl _ _ w.heap.size _ _ _ _ rfl (ba q0.o) underlying100 rfl au) rfl ?_
 refine ⟨rfl,dz.x (dz.set (Y:=fun b=>b=w.heap.size) (b:=w.heap.size) (dz.set (Y:=fun b=>b=w.heap.size) (b:=w.heap.size) ⟨vc,vo,vx,vs,l,HA.o.bl ((Bl.refl _).drew.trans b2.o),fun b hb=>?_⟩ rfl 0 _) rfl 1 _)⟩
 subst hb
 exact ⟨af q0.o,dX,Tt.o,yZ.o,NK.o⟩
end
end
theorem dj {P:Program} {fn:Func} {p q:Tmp} {ty:TypeId} (h:fn.results=#[.cell p ty,.tmp q]) (tmps:Array Value) (w:World) (b:Nat) (t:TypeId) (cs:Array Value) (v:Value) (fr:Nat×Nat) (d:TypeDesc) (hp:tmps.getD p undef=π b 0) (hq:tmps.getD q undef=v) (hb:w.heap[b]?=some (.cells cs t fr)) (hu:P.underlying ty=some d) (hd:(match d with | .struct _ | .array _ _=>true|_=>false)=true) (hi:(P.info? ty).map (·.size)=some cs.size) :
  (results fn tmps).run P w=.ok (.tuple #[.agg cs,v]) w:=by
 have qY:tmps[p]?.getD undef=π b 0:=by simpa using hp
 have Sm:tmps[q]?.getD undef=v:=by simpa using hq
 simp [results,h,qY,Sm,asAddr,run_loadVar_row w b t ty cs fr d hb hu hd hi]
theorem Bm:(Tryz.prog.info? 108).map (·.size)=some 4:=by kernel_rfl
abbrev JH (x:Hd):Array Value:=#[ι x.fr,ι x.til,ι x.pc,ι x.cls]
def TE (h:Hp) (pc:Int) (l:List Hd) (w:World) (e:Ending) (w':World):Prop :=
 Bl w w'/\∃x:Hd,(0<=h.caughtL pc l/\x.pc=h.caughtL pc l/\e=.returned (.tuple #[.agg (JH x),.bool true]))∨(h.caughtL pc l<0/\e=.returned (.tuple #[.agg (JH x),.bool false]))
theorem j9 {u0 u1 u2 u3:Value} {t:TypeId} (h:w.heap[b]?=some (.cells #[u0,u1,u2,u3] t (0,0))) (v0 v1 v2 v3:Value):((((w.setCell ⟨b,0,none⟩ v0).setCell ⟨b,1,none⟩ v1).setCell ⟨b,2,none⟩ v2).setCell ⟨b,3,none⟩ v3).heap[b]?=some (.cells #[v0,v1,v2,v3] t (0,0)):=by
 rw [ay (ay (ay (ay h _) _) _)];rfl
theorem l7 {v:World} (h:Bl w v) (hb:w.heap.size<=b) (y0 y1 y2 y3:Value):Bl w ((((v.setCell ⟨b,0,none⟩ y0).setCell ⟨b,1,none⟩ y1).setCell ⟨b,2,none⟩ y2).setCell ⟨b,3,none⟩ y3) :=
 (((h.setCell (p:=⟨b,0,none⟩) hb _).setCell (p:=⟨b,1,none⟩) hb _).setCell (p:=⟨b,2,none⟩) hb _).setCell (p:=⟨b,3,none⟩) hb _
abbrev FZ:Obj:=.cells #[ι 0,ι 0,ι 0,ι 0] 108
theorem pG (g:Mg) (h:Hp) (v:Va) (l:List Hd) (A:Option Addr) (cap:Nat) (pc:Int) (w:World) (R:qh w g h) (hA:kR w A l) (hv:v.kind=3) (h0:0<=v.n) (hn:v.n<h.objs.length) (ht:h.thrown=v.n) (hok:∀q,q<l.length->0<=(nth eK l q).fr/\(nth eK l q).til<=3000/\0<=(nth eK l q).til/\0<=(nth eK l q).pc) (Bn:0<=pc/\pc<=3000) :
  χ 96 #[π g.hb 0,.slice A l.length cap,ι pc,cm (im v)] w fun e w'=>TE h pc l w e w':=by
 have HR:=ae R
 have HA:=ae hA
 have HV:Θ (v.kind=3/\0<=v.n/\v.n<h.objs.length/\h.thrown=v.n):=⟨hv,h0,hn,ht⟩
 have Bb:=ae hok
 have Sj:=hA.1
 unfold maxLen at Sj
 have bM:Θ (Bl w ((w.alloc (eS (im v))).alloc FZ)):=((Bl.refl w).alloc _).alloc _
 obtain ⟨L0,L1⟩:=bc w #[ι (im v).kind,ι (im v).n] #[ι 0,ι 0,ι 0,ι 0] 100 108
 have HL:Θ (((w.alloc (eS (im v))).alloc FZ).heap[w.heap.size]?=some (.cells #[ι (im v).kind,ι (im v).n] 100 (0,0))/\((w.alloc (eS (im v))).alloc FZ).heap[w.heap.size+1]?=some (.cells #[ι 0,ι 0,ι 0,ι 0] 108 (0,0))):=⟨L0,L1⟩
 clear R hA hv h0 hn ht hok L0 L1
 go_enter func96,ntmps96
 go_wp2
 go_loopw [14] (fun i wr=>∃q:Nat,q<=l.length/\i=ι q/\Θ (h.caughtL pc l=h.caughtL pc (l.drop q))/\Θ (Bl w wr)/\Θ (wr.heap[w.heap.size]?=some (.cells #[ι (im v).kind,ι (im v).n] 100 (0,0))/\wr.heap[w.heap.size+1]?=some (.cells #[ι 0,ι 0,ι 0,ι 0] 108 (0,0)))) (fun i _=>l.length-(intOf i).toNat)
 case atStart=>exact ⟨0,Nat.zero_le _,rfl,(show h.caughtL pc l=h.caughtL pc (l.drop 0) from rfl),bM.o,HL.o⟩
 case round =>
  clear HL bM
  obtain ⟨q,hq,rfl,hc,hg,HL⟩:=hrel
  by_cases dI:q<l.length
  ·rcases (HA.o.bl hg.o).2 with z0|⟨b,off,rfl,hcell⟩
   ·omega
   obtain ⟨x0,x1,x2,x3,-⟩:=hcell q dI
   obtain ⟨o1,o2,o3,o4⟩:=Bb.o q dI
   have V4:Θ (h.fits (nth eK l q) pc=false->h.caughtL pc (l.drop q)=h.caughtL pc (l.drop (q+1))):=fun e=>px dI e
   have Sn:Θ (h.fits (nth eK l q) pc=true->h.caughtL pc (l.drop q)=(nth eK l q).pc):=fun e=>qL dI e
   generalize hX:nth eK l q=x at *
   have HB:Θ (∀w',Bl wr w'->χ 154 #[π g.hb 0,cm (im v),ι x.cls] w' fun e w2=>e=.returned (.bool (fu h.file.classes (h.obj v.n).cls x.cls))/\Bl w' w2):=fun w' hb=>by
    have:=qT g h v x.cls w' ((HR.o.bl hg.o).bl hb) HV.o.1 (by have:=HV.o.2.1;omega) HV.o.2.2.1
    rwa [decide_eq_true HV.o.2.1,Bool.true_and] at this
   have MF:Θ (h.fits x pc=(decide (x.fr<=pc/\pc<=x.til-1)&&fu h.file.classes (h.obj v.n).cls x.cls)):=by
    show h.fits x pc=_
    unfold Hp.fits
    rw [HV.o.2.2.2,Bool.eq_iff_iff]
    simp only [Bool.and_eq_true,decide_eq_true_eq]
    constructor
    ·rintro ⟨a,b,c⟩;exact ⟨by omega,c⟩
    ·rintro ⟨a,c⟩;exact ⟨by omega,by omega,c⟩
   have k0:=aO HL.o.1
   have k1:=aJ HL.o.1
   have hlt:=af HL.o.2
   clear hcell hX
   have K0:∀o,(wr.alloc o).cell? ⟨w.heap.size,0,none⟩=some (ι (im v).kind):=fun o=>((Bl.refl wr).alloc o).cell k0
   have K1:∀o,(wr.alloc o).cell? ⟨w.heap.size,1,none⟩=some (ι (im v).n):=fun o=>((Bl.refl wr).alloc o).cell k1
   obtain ⟨T,hT⟩:∃T,decide (x.fr<=pc/\pc<=x.til-1)=T:=⟨_,rfl⟩
   obtain ⟨U,hU⟩:∃U,fu h.file.classes (h.obj v.n).cls x.cls=U:=⟨_,rfl⟩
   have HT:=ae hT
   have HU:=ae hU
   rw [hT,hU] at MF
   have bn:=aB wr #[ι x.fr,ι x.til,ι x.pc,ι x.cls] 108
   have JG:=ae bn
   clear hT hU bn
   cases T with
   | false =>
    have MO:=ae (V4.o (MF.o.trans rfl))
    go_wp2_with (go_at_call 35;refine (bP _ _ _ _).mono ?_;rintro e w0 ⟨he,gH⟩;rw [HT.o] at he;subst he;rw [gH];clear gH w0)
    go_roundw
    case rel=>exact ⟨q+1,by omega,by go_num,hc.o.trans MO.o,hg.o.alloc _,ax ((Bl.refl wr).alloc _) HL.o.1,ax ((Bl.refl wr).alloc _) HL.o.2⟩
    case measure=>simp [intOf];omega
   | true =>
    cases U with
    | false =>
     have MO:=ae (V4.o (MF.o.trans rfl))
     go_wp2_with (first
      | (go_at_call 35;refine (bP _ _ _ _).mono ?_;rintro e w0 ⟨he,gH⟩;rw [HT.o] at he;subst he;rw [gH];clear gH w0)
      | (go_at_call 154;refine (HB.o _ ((Bl.refl wr).alloc _)).mono ?_;rintro e w2 ⟨he,b2⟩;rw [HU.o] at he;subst he;replace b2:=ae b2))
     go_roundw
     case rel=>exact ⟨q+1,by omega,by go_num,hc.o.trans MO.o,(hg.o.alloc _).trans b2.o,ax (((Bl.refl wr).alloc _).trans b2.o) HL.o.1,ax (((Bl.refl wr).alloc _).trans b2.o) HL.o.2⟩
     case measure=>simp [intOf];omega
    | true =>
     have Qo:=ae (hc.o.trans (Sn.o (MF.o.trans rfl)))
     go_wp2_with (first
      | (go_at_call 35;refine (bP _ _ _ _).mono ?_;rintro e w0 ⟨he,gH⟩;rw [HT.o] at he;subst he;rw [gH];clear gH w0)
      | (go_at_call 154;refine (HB.o _ ((Bl.refl wr).alloc _)).mono ?_;rintro e w2 ⟨he,b2⟩;rw [HU.o] at he;subst he;have q2:=ax (((Bl.refl wr).alloc _).trans b2) HL.o.2;have fz:=aA q2;have y0:w2.cell? ⟨w.heap.size+1,0,none⟩=some (ι 0):=(ab q2).trans rfl;have y1:w2.cell? ⟨w.heap.size+1,1,none⟩=some (ι 0):=(ab q2).trans rfl;have y2:w2.cell? ⟨w.heap.size+1,2,none⟩=some (ι 0):=(ab q2).trans rfl;have y3:w2.cell? ⟨w.heap.size+1,3,none⟩=some (ι 0):=(ab q2).trans rfl;have q5:=ax b2 JG.o;have p0:w2.cell? ⟨wr.heap.size,0,none⟩=some (ι x.fr):=(ab q5).trans rfl;have p1:w2.cell? ⟨wr.heap.size,1,none⟩=some (ι x.til):=(ab q5).trans rfl;have p2:w2.cell? ⟨wr.heap.size,2,none⟩=some (ι x.pc):=(ab q5).trans rfl;have p3:w2.cell? ⟨wr.heap.size,3,none⟩=some (ι x.cls):=(ab q5).trans rfl;replace q2:=ae q2;replace q5:=ae q5;replace b2:=ae b2))
     refine bodyPost_ret (dj rfl _ _ (w.heap.size+1) _ _ _ _ _ rfl rfl (j9 q2.o _ _ _ _) underlying108 rfl Bm) rfl ?_
     exact ⟨l7 ((hg.o.alloc _).trans b2.o) (Nat.le_succ _) _ _ _ _,x,Or.inl ⟨by rw [Qo.o];exact o4,Qo.o.symm,rfl⟩⟩
  ·obtain rfl:q=l.length:=by omega
   have q2:=HL.o.2
   have fz:=aA q2
   have y0:wr.cell? ⟨w.heap.size+1,0,none⟩=some (ι 0):=(ab q2).trans rfl
   have y1:wr.cell? ⟨w.heap.size+1,1,none⟩=some (ι 0):=(ab q2).trans rfl
   have y2:wr.cell? ⟨w.heap.size+1,2,none⟩=some (ι 0):=(ab q2).trans rfl
   have y3:wr.cell? ⟨w.heap.size+1,3,none⟩=some (ι 0):=(ab q2).trans rfl
   replace q2:=ae q2
   go_wp2
   refine bodyPost_ret (dj rfl _ _ (w.heap.size+1) _ _ _ _ _ rfl rfl (j9 q2.o _ _ _ _) underlying108 rfl Bm) rfl ?_
   have PB:=hc.o
   rw [List.drop_length] at PB
   exact ⟨l7 hg.o (Nat.le_succ _) _ _ _ _,eK,Or.inr ⟨by rw [PB];show (-1:Int)<0;decide,rfl⟩⟩
theorem qZ (p q:Addr) (w:World) :
  CallsD Tryz.prog 155 #[.pointer (some p),.pointer (some q)] .returning w fun e u' w'=>e=.returned (.tuple #[])/\u'=.returning/\w'=w:=by
 refine callsD_of_wpS func155 rfl fun c₀ cs hu=>?_
 apply wpS_seq
 apply wpS_region
 simp [wpOpsS,go_sem,recoverD,hu,ntmps155,Exit.thenS]
 refine wpS_of_wp ?_
 go_wp2
 cases c₀
 simp_all [bodyPostS,results,Tryz.results155]
theorem xj (x:Value) (w:World):(Instr.typeAssert (.iface 102 x) 20 102 true).run Tryz.prog w=.ok (.tuple #[x,.bool true]) w:=by
 simp [Instr.typeAssert,run_underlying underlying102]
theorem qu (p q:Nat) (how k n:Int) (a0 a1 a2 b0:Value) (MP:List PanicEntry) (w:World) (h0:κ w p 0 a0) (h1:κ w p 1 a1) (h2:κ w p 2 a2) (h3:κ w q 0 b0) (f0:∀i,w.frozen? ⟨p,i,none⟩=false) (f1:w.frozen? ⟨q,0,none⟩=false) (hne:p≠q) :
  CallsD Tryz.prog 155 #[π p 0,π q 0] (.panicking ({ v:=.iface 102 (.agg #[ι how,ι k,ι n]),recovered:=false }::MP)) w fun e u' w' =>
   e=.returned (.tuple #[])/\u'=.panicking ({ v:=.iface 102 (.agg #[ι how,ι k,ι n]),recovered:=true }::MP)/\w'=((((w.setCell ⟨p,0,none⟩ (ι how)).setCell ⟨p,1,none⟩ (ι k)).setCell ⟨p,2,none⟩ (ι n)).setCell ⟨q,0,none⟩ (.bool true)).alloc (.cells #[ι how,ι k,ι n] 102):=by
 refine callsD_of_wpS func155 rfl fun c₀ cs hu=>?_
 apply wpS_seq
 apply wpS_region
 simp [wpOpsS,go_sem,recoverD,hu,ntmps155,Exit.thenS]
 refine wpS_of_wp ?_
 have he:(#[Value.pointer (some ⟨p,0,none⟩),Value.pointer (some ⟨q,0,none⟩)]++(Array.replicate 10 undef).setIfInBounds 3 (.iface 102 (.agg #[ι how,ι k,ι n])))=#[π p 0,π q 0,undef,undef,undef,.iface 102 (.agg #[ι how,ι k,ι n]),undef,undef,undef,undef,undef,undef]:=rfl
 rw [he]
 clear he
 have TF:=xj (.agg #[ι how,ι k,ι n])
 have hp:=br h0
 have hq:=br h3
 go_wp2
 simp [bodyPostS,results,Tryz.results155]
abbrev dA:Obj:=.cells #[ι 0,ι 0,ι 0] 102
abbrev dm:Obj:=.cells #[.bool false] 4
theorem vt (x:Value) (how k n:Int) (S:World->Prop) (w:World) (hc:χ 105 #[x] ((w.alloc dA).alloc dm) fun e w'=>e=bF how k n/\w'.heap[w.heap.size]?=some dA/\w'.heap[w.heap.size+1]?=some dm/\S w') :
  χ 104 #[.func (.func 105) #[x] #[]] w fun e w'=>e=.returned (.tuple #[.agg #[ι how,ι k,ι n],.bool true])/\∃w1,S w1/\w'=((((w1.setCell ⟨w.heap.size,0,none⟩ (ι how)).setCell ⟨w.heap.size,1,none⟩ (ι k)).setCell ⟨w.heap.size,2,none⟩ (ι n)).setCell ⟨w.heap.size+1,0,none⟩ (.bool true)).alloc (.cells #[ι how,ι k,ι n] 102):=by
 have JI:∀(fn:Fn) (first cap:Array Value) (w:World),(Instr.makeFunc fn first cap).run Tryz.prog w=.ok (.func fn first cap) w:=fun _ _ _ _=>rfl
 have HC:Θ (_):=hc
 clear hc
 go_enter_defers func104,ntmps104
 go_wp2_with (go_at_call 105;refine Calls.mono HC.o ?_;rintro e w1 ⟨rfl,b1,b2,s1⟩)
 have c0:w1.cell? ⟨w.heap.size,0,none⟩=some (ι 0):=by simp [World.cell?,b1]
 have c1:w1.cell? ⟨w.heap.size,1,none⟩=some (ι 0):=by simp [World.cell?,b1]
 have c2:w1.cell? ⟨w.heap.size,2,none⟩=some (ι 0):=by simp [World.cell?,b1]
 have c3:w1.cell? ⟨w.heap.size+1,0,none⟩=some (.bool false):=by simp [World.cell?,b2]
 refine leaves_cons (f:=155) (args:=#[π w.heap.size 0,π (w.heap.size+1) 0]) (by simp) (by simp [go_sem]) ?_
 refine (qu w.heap.size (w.heap.size+1) how k n _ _ _ _ [] w1 c0 c1 c2 c3 (fun i=>by simp [World.frozen?,b1]) (by simp [World.frozen?,b2]) (by omega)).mono ?_
 rintro e u' w'' ⟨rfl,rfl,rfl⟩
 obtain ⟨WF,vw⟩:∃WF,WF=((((w1.setCell ⟨w.heap.size,0,none⟩ (ι how)).setCell ⟨w.heap.size,1,none⟩ (ι k)).setCell ⟨w.heap.size,2,none⟩ (ι n)).setCell ⟨w.heap.size+1,0,none⟩ (.bool true)).alloc (.cells #[ι how,ι k,ι n] 102):=⟨_,rfl⟩
 have zb:WF.heap[w.heap.size]?=some (.cells #[ι how,ι k,ι n] 102 (0,0)):=by
  have h1:((((w1.setCell ⟨w.heap.size,0,none⟩ (ι how)).setCell ⟨w.heap.size,1,none⟩ (ι k)).setCell ⟨w.heap.size,2,none⟩ (ι n)).setCell ⟨w.heap.size+1,0,none⟩ (.bool true)).heap[w.heap.size]?=some (.cells #[ι how,ι k,ι n] 102 (0,0)):=by
   rw [ak (by omega),ay (ay (ay b1 _) _)];rfl
  rw [vw,Below.heap_alloc _ _ _ (af h1)];exact h1
 have NQ:WF.heap[w.heap.size+1]?=some (.cells #[.bool true] 4 (0,0)):=by
  have h1:((((w1.setCell ⟨w.heap.size,0,none⟩ (ι how)).setCell ⟨w.heap.size,1,none⟩ (ι k)).setCell ⟨w.heap.size,2,none⟩ (ι n)).setCell ⟨w.heap.size+1,0,none⟩ (.bool true)).heap[w.heap.size+1]?=some (.cells #[.bool true] 4 (0,0)):=by
   have h2:(((w1.setCell ⟨w.heap.size,0,none⟩ (ι how)).setCell ⟨w.heap.size,1,none⟩ (ι k)).setCell ⟨w.heap.size,2,none⟩ (ι n)).heap[w.heap.size+1]?=some dm:=by
    rw [ak (by omega),ak (by omega),ak (by omega)];exact b2
   rw [ay h2];rfl
  rw [vw,Below.heap_alloc _ _ _ (af h1)];exact h1
 have d0:WF.cell? ⟨w.heap.size,0,none⟩=some (ι how):=by rw [ab zb];rfl
 have d1:WF.cell? ⟨w.heap.size,1,none⟩=some (ι k):=by rw [ab zb];rfl
 have d2:WF.cell? ⟨w.heap.size,2,none⟩=some (ι n):=by rw [ab zb];rfl
 have d3:WF.cell? ⟨w.heap.size+1,0,none⟩=some (.bool true):=by rw [ab NQ];rfl
 rw [<-vw]
 have hex:∃w1,S w1/\WF=((((w1.setCell ⟨w.heap.size,0,none⟩ (ι how)).setCell ⟨w.heap.size,1,none⟩ (ι k)).setCell ⟨w.heap.size,2,none⟩ (ι n)).setCell ⟨w.heap.size+1,0,none⟩ (.bool true)).alloc (.cells #[ι how,ι k,ι n] 102):=⟨w1,s1,vw⟩
 simp [Leaves,settle,results,Tryz.results104,go_sem,d0,d1,d2,d3]
 exact hex
theorem vz (x:Value) (S:World->Prop) (w:World) (hc:χ 105 #[x] ((w.alloc dA).alloc dm) fun e w'=>e=.returned (.tuple #[])/\w'.heap[w.heap.size]?=some dA/\w'.heap[w.heap.size+1]?=some dm/\S w') :
  χ 104 #[.func (.func 105) #[x] #[]] w fun e w'=>e=.returned (.tuple #[.agg #[ι 0,ι 0,ι 0],.bool false])/\∃w1,S w1/\w'=(((w1.setCell ⟨w.heap.size,0,none⟩ (ι 0)).setCell ⟨w.heap.size,1,none⟩ (ι 0)).setCell ⟨w.heap.size,2,none⟩ (ι 0)).setCell ⟨w.heap.size+1,0,none⟩ (.bool false):=by
 have JI:∀(fn:Fn) (first cap:Array Value) (w:World),(Instr.makeFunc fn first cap).run Tryz.prog w=.ok (.func fn first cap) w:=fun _ _ _ _=>rfl
 have HC:Θ (_):=hc
 clear hc
 go_enter_defers func104,ntmps104
 go_wp2_with (go_at_call 105;refine Calls.mono HC.o ?_;rintro e w1 ⟨rfl,b1,b2,s1⟩;have c0:w1.cell? ⟨w.heap.size,0,none⟩=some (ι 0):=(by simp [World.cell?,b1]);have c1:w1.cell? ⟨w.heap.size,1,none⟩=some (ι 0):=(by simp [World.cell?,b1]);have c2:w1.cell? ⟨w.heap.size,2,none⟩=some (ι 0):=(by simp [World.cell?,b1]);have c3:w1.cell? ⟨w.heap.size+1,0,none⟩=some (.bool false):=(by simp [World.cell?,b2]);have f0:∀i,w1.frozen? ⟨w.heap.size,i,none⟩=false:=(fun i=>by simp [World.frozen?,b1]);have f1:w1.frozen? ⟨w.heap.size+1,0,none⟩=false:=(by simp [World.frozen?,b2]))
 refine leaves_cons (f:=155) (args:=#[π w.heap.size 0,π (w.heap.size+1) 0]) (by simp) (by simp [go_sem]) ?_
 refine (qZ ⟨w.heap.size,0,none⟩ ⟨w.heap.size+1,0,none⟩ _).mono ?_
 rintro e u' w'' ⟨rfl,rfl,rfl⟩
 obtain ⟨WF,vw⟩:∃WF,WF=(((w1.setCell ⟨w.heap.size,0,none⟩ (ι 0)).setCell ⟨w.heap.size,1,none⟩ (ι 0)).setCell ⟨w.heap.size,2,none⟩ (ι 0)).setCell ⟨w.heap.size+1,0,none⟩ (.bool false):=⟨_,rfl⟩
 have zb:WF.heap[w.heap.size]?=some dA:=by
  rw [vw,ak (by omega),ay (ay (ay b1 _) _)];rfl
 have NQ:WF.heap[w.heap.size+1]?=some dm:=by
  have h2:(((w1.setCell ⟨w.heap.size,0,none⟩ (ι 0)).setCell ⟨w.heap.size,1,none⟩ (ι 0)).setCell ⟨w.heap.size,2,none⟩ (ι 0)).heap[w.heap.size+1]?=some dm:=by
   rw [ak (by omega),ak (by omega),ak (by omega)];exact b2
  rw [vw,ay h2];rfl
 have d0:WF.cell? ⟨w.heap.size,0,none⟩=some (ι 0):=by rw [ab zb];rfl
 have d1:WF.cell? ⟨w.heap.size,1,none⟩=some (ι 0):=by rw [ab zb];rfl
 have d2:WF.cell? ⟨w.heap.size,2,none⟩=some (ι 0):=by rw [ab zb];rfl
 have d3:WF.cell? ⟨w.heap.size+1,0,none⟩=some (.bool false):=by rw [ab NQ];rfl
 rw [<-vw]
 have hex:∃w1,S w1/\WF=(((w1.setCell ⟨w.heap.size,0,none⟩ (ι 0)).setCell ⟨w.heap.size,1,none⟩ (ι 0)).setCell ⟨w.heap.size,2,none⟩ (ι 0)).setCell ⟨w.heap.size+1,0,none⟩ (.bool false):=⟨w1,s1,vw⟩
 simp [Leaves,settle,results,Tryz.results104,go_sem,d0,d1,d2,d3]
 exact hex
theorem sT (x y:Value) (how k n:Int) (S:World->Prop) (w:World) (hc:χ 106 #[x,y] ((w.alloc dA).alloc dm) fun e w'=>e=bF how k n/\w'.heap[w.heap.size]?=some dA/\w'.heap[w.heap.size+1]?=some dm/\S w') :
  χ 104 #[.func (.func 106) #[] #[x,y]] w fun e w'=>e=.returned (.tuple #[.agg #[ι how,ι k,ι n],.bool true])/\∃w1,S w1/\w'=((((w1.setCell ⟨w.heap.size,0,none⟩ (ι how)).setCell ⟨w.heap.size,1,none⟩ (ι k)).setCell ⟨w.heap.size,2,none⟩ (ι n)).setCell ⟨w.heap.size+1,0,none⟩ (.bool true)).alloc (.cells #[ι how,ι k,ι n] 102):=by
 have JI:∀(fn:Fn) (first cap:Array Value) (w:World),(Instr.makeFunc fn first cap).run Tryz.prog w=.ok (.func fn first cap) w:=fun _ _ _ _=>rfl
 have HC:Θ (_):=hc
 clear hc
 go_enter_defers func104,ntmps104
 go_wp2_with (go_at_call 106;refine Calls.mono HC.o ?_;rintro e w1 ⟨rfl,b1,b2,s1⟩)
 have c0:w1.cell? ⟨w.heap.size,0,none⟩=some (ι 0):=by simp [World.cell?,b1]
 have c1:w1.cell? ⟨w.heap.size,1,none⟩=some (ι 0):=by simp [World.cell?,b1]
 have c2:w1.cell? ⟨w.heap.size,2,none⟩=some (ι 0):=by simp [World.cell?,b1]
 have c3:w1.cell? ⟨w.heap.size+1,0,none⟩=some (.bool false):=by simp [World.cell?,b2]
 refine leaves_cons (f:=155) (args:=#[π w.heap.size 0,π (w.heap.size+1) 0]) (by simp) (by simp [go_sem]) ?_
 refine (qu w.heap.size (w.heap.size+1) how k n _ _ _ _ [] w1 c0 c1 c2 c3 (fun i=>by simp [World.frozen?,b1]) (by simp [World.frozen?,b2]) (by omega)).mono ?_
 rintro e u' w'' ⟨rfl,rfl,rfl⟩
 obtain ⟨WF,vw⟩:∃WF,WF=((((w1.setCell ⟨w.heap.size,0,none⟩ (ι how)).setCell ⟨w.heap.size,1,none⟩ (ι k)).setCell ⟨w.heap.size,2,none⟩ (ι n)).setCell ⟨w.heap.size+1,0,none⟩ (.bool true)).alloc (.cells #[ι how,ι k,ι n] 102):=⟨_,rfl⟩
 have zb:WF.heap[w.heap.size]?=some (.cells #[ι how,ι k,ι n] 102 (0,0)):=by
  have h1:((((w1.setCell ⟨w.heap.size,0,none⟩ (ι how)).setCell ⟨w.heap.size,1,none⟩ (ι k)).setCell ⟨w.heap.size,2,none⟩ (ι n)).setCell ⟨w.heap.size+1,0,none⟩ (.bool true)).heap[w.heap.size]?=some (.cells #[ι how,ι k,ι n] 102 (0,0)):=by
   rw [ak (by omega),ay (ay (ay b1 _) _)];rfl
  rw [vw,Below.heap_alloc _ _ _ (af h1)];exact h1
 have NQ:WF.heap[w.heap.size+1]?=some (.cells #[.bool true] 4 (0,0)):=by
  have h1:((((w1.setCell ⟨w.heap.size,0,none⟩ (ι how)).setCell ⟨w.heap.size,1,none⟩ (ι k)).setCell ⟨w.heap.size,2,none⟩ (ι n)).setCell ⟨w.heap.size+1,0,none⟩ (.bool true)).heap[w.heap.size+1]?=some (.cells #[.bool true] 4 (0,0)):=by
   have h2:(((w1.setCell ⟨w.heap.size,0,none⟩ (ι how)).setCell ⟨w.heap.size,1,none⟩ (ι k)).setCell ⟨w.heap.size,2,none⟩ (ι n)).heap[w.heap.size+1]?=some dm:=by
    rw [ak (by omega),ak (by omega),ak (by omega)];exact b2
   rw [ay h2];rfl
  rw [vw,Below.heap_alloc _ _ _ (af h1)];exact h1
 have d0:WF.cell? ⟨w.heap.size,0,none⟩=some (ι how):=by rw [ab zb];rfl
 have d1:WF.cell? ⟨w.heap.size,1,none⟩=some (ι k):=by rw [ab zb];rfl
 have d2:WF.cell? ⟨w.heap.size,2,none⟩=some (ι n):=by rw [ab zb];rfl
 have d3:WF.cell? ⟨w.heap.size+1,0,none⟩=some (.bool true):=by rw [ab NQ];rfl
 rw [<-vw]
 have hex:∃w1,S w1/\WF=((((w1.setCell ⟨w.heap.size,0,none⟩ (ι how)).setCell ⟨w.heap.size,1,none⟩ (ι k)).setCell ⟨w.heap.size,2,none⟩ (ι n)).setCell ⟨w.heap.size+1,0,none⟩ (.bool true)).alloc (.cells #[ι how,ι k,ι n] 102):=⟨w1,s1,vw⟩
 simp [Leaves,settle,results,Tryz.results104,go_sem,d0,d1,d2,d3]
 exact hex
theorem sU (x y:Value) (S:World->Prop) (w:World) (hc:χ 106 #[x,y] ((w.alloc dA).alloc dm) fun e w'=>e=.returned (.tuple #[])/\w'.heap[w.heap.size]?=some dA/\w'.heap[w.heap.size+1]?=some dm/\S w') :
  χ 104 #[.func (.func 106) #[] #[x,y]] w fun e w'=>e=.returned (.tuple #[.agg #[ι 0,ι 0,ι 0],.bool false])/\∃w1,S w1/\w'=(((w1.setCell ⟨w.heap.size,0,none⟩ (ι 0)).setCell ⟨w.heap.size,1,none⟩ (ι 0)).setCell ⟨w.heap.size,2,none⟩ (ι 0)).setCell ⟨w.heap.size+1,0,none⟩ (.bool false):=by
 have JI:∀(fn:Fn) (first cap:Array Value) (w:World),(Instr.makeFunc fn first cap).run Tryz.prog w=.ok (.func fn first cap) w:=fun _ _ _ _=>rfl
 have HC:Θ (_):=hc
 clear hc
 go_enter_defers func104,ntmps104
 go_wp2_with (go_at_call 106;refine Calls.mono HC.o ?_;rintro e w1 ⟨rfl,b1,b2,s1⟩;have c0:w1.cell? ⟨w.heap.size,0,none⟩=some (ι 0):=(by simp [World.cell?,b1]);have c1:w1.cell? ⟨w.heap.size,1,none⟩=some (ι 0):=(by simp [World.cell?,b1]);have c2:w1.cell? ⟨w.heap.size,2,none⟩=some (ι 0):=(by simp [World.cell?,b1]);have c3:w1.cell? ⟨w.heap.size+1,0,none⟩=some (.bool false):=(by simp [World.cell?,b2]);have f0:∀i,w1.frozen? ⟨w.heap.size,i,none⟩=false:=(fun i=>by simp [World.frozen?,b1]);have f1:w1.frozen? ⟨w.heap.size+1,0,none⟩=false:=(by simp [World.frozen?,b2]))
 refine leaves_cons (f:=155) (args:=#[π w.heap.size 0,π (w.heap.size+1) 0]) (by simp) (by simp [go_sem]) ?_
 refine (qZ ⟨w.heap.size,0,none⟩ ⟨w.heap.size+1,0,none⟩ _).mono ?_
 rintro e u' w'' ⟨rfl,rfl,rfl⟩
 obtain ⟨WF,vw⟩:∃WF,WF=(((w1.setCell ⟨w.heap.size,0,none⟩ (ι 0)).setCell ⟨w.heap.size,1,none⟩ (ι 0)).setCell ⟨w.heap.size,2,none⟩ (ι 0)).setCell ⟨w.heap.size+1,0,none⟩ (.bool false):=⟨_,rfl⟩
 have zb:WF.heap[w.heap.size]?=some dA:=by
  rw [vw,ak (by omega),ay (ay (ay b1 _) _)];rfl
 have NQ:WF.heap[w.heap.size+1]?=some dm:=by
  have h2:(((w1.setCell ⟨w.heap.size,0,none⟩ (ι 0)).setCell ⟨w.heap.size,1,none⟩ (ι 0)).setCell ⟨w.heap.size,2,none⟩ (ι 0)).heap[w.heap.size+1]?=some dm:=by
   rw [ak (by omega),ak (by omega),ak (by omega)];exact b2
  rw [vw,ay h2];rfl
 have d0:WF.cell? ⟨w.heap.size,0,none⟩=some (ι 0):=by rw [ab zb];rfl
 have d1:WF.cell? ⟨w.heap.size,1,none⟩=some (ι 0):=by rw [ab zb];rfl
 have d2:WF.cell? ⟨w.heap.size,2,none⟩=some (ι 0):=by rw [ab zb];rfl
 have d3:WF.cell? ⟨w.heap.size+1,0,none⟩=some (.bool false):=by rw [ab NQ];rfl
 rw [<-vw]
 have hex:∃w1,S w1/\WF=(((w1.setCell ⟨w.heap.size,0,none⟩ (ι 0)).setCell ⟨w.heap.size,1,none⟩ (ι 0)).setCell ⟨w.heap.size,2,none⟩ (ι 0)).setCell ⟨w.heap.size+1,0,none⟩ (.bool false):=⟨w1,s1,vw⟩
 simp [Leaves,settle,results,Tryz.results104,go_sem,d0,d1,d2,d3]
 exact hex
end Go.Proofs.YtgiiapenmjollaaGreat
