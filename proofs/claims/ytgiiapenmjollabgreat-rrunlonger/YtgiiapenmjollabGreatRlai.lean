import Derived.Test.YtgiiapenmjollabGreatRlad
import Derived.Test.YtgiiapenmjollabGreatRlag
import Derived.Test.YtgiiapenmjollabGreatRlah
import Derived.Deep.RegionLaw
namespace Go.Proofs.YtgiiapenmjollabGreat
set_option linter.all false
set_option maxHeartbeats 40000000
set_option maxRecDepth 100000
open Go.RowKit
theorem write_long (lb lc n:Nat) (l:List Va) (v:Va) (w:World) (B:LBox w lb l) (hn:n+1<l.length) (hl:l.length≤1000) (hk:v.kind=2) :
  Calls Tryz.prog 132 #[.slice (some ⟨lb,0,none⟩) l.length lc,.int .i64 (n:Int),mvV v] w fun e w'=>e=.returned (.tuple #[])∧LBox w' lb ((l.set n v).set (n+1) ⟨4,0⟩)∧w.grownBy w' (some lb):=by
 obtain ⟨vk,vn⟩:=v
 dsimp only at hk
 subst hk
 have x0:=B.c0 (i:=n) (by omega)
 have x1:=B.c1 (i:=n) (by omega)
 have x2:=B.c0 (i:=n+1) hn
 have x3:=B.c1 (i:=n+1) hn
 have fz:=free_blk B.blk
 have hlt:=lt_some B.blk
 have hn0:(0:Int)≤(n:Int):=by omega
 have hn1:(n:Int)<(l.length:Int):=by omega
 have hn2:(0:Int)≤(n:Int)+1:=by omega
 have hn3:(n:Int)+1<(l.length:Int):=by omega
 have HB:=hid B
 have hne:lb≠w.heap.size:=by omega
 have hn':n<l.length:=by omega
 clear B
 go_enter Tryz.func132,Tryz.ntmps132
 go_wp2
 go_end0
 have h1:=HB.out.set hn' (⟨2,vn⟩:Va)
 have h2:=h1.set (i:=n+1) (by rw [List.length_set];exact hn) (⟨4,0⟩:Va)
 exact ⟨rfl,h2.bl ((Bl.refl _).alloc _),grown_trans (grown_trans (grown_trans (grown_trans (grown_set lb _ _) (grown_set lb _ _)) (grown_set lb _ _)) (grown_set lb _ _)) (World.grownBy_alloc _ _ _)⟩
theorem CA.lbox {w0 w:World} {g:Mg} {a:Mc} {c:Cal} {l:List Va} {vs:Value} (H:CA w0 g w a c l vs):LBox w a.lb l:=⟨H.loc⟩
theorem read_yes {w0:World} {g:Mg} {a:Mc} {c:Cal} {l:List Va} {vs:Value} {w:World} (H:CA w0 g w a c l vs) (n:Nat) (k:Int) (hn:n<c.locs.length) (hk:1≤k∧k≤3) (h2:k=2→n+1<c.locs.length) (hv:(nth va0 c.locs n).kind=k) :
  Calls Tryz.prog 199 #[.slice (some ⟨a.lb,0,none⟩) c.locs.length a.lc,.int .i64 (n:Int),.int .i64 k] w fun e w'=>e=.returned (mvV (im (nth va0 c.locs n)))∧Bl w w':=by
 have hl:=H.rel.len
 have hs:=H.short
 have e:=H.rel.rd n (by omega) (by omega)
 rw [←hl,←e]
 by_cases h:k=2
 ·subst h
  exact read_long a.lb a.lc n l w H.lbox (by have:=h2 rfl;omega) (by omega) (by rw [e];exact hv) (H.rel.long n hv)
 ·exact read_num a.lb a.lc n l k w H.lbox (by omega) (by omega) (by rw [e];exact hv) h
theorem read_no {w0:World} {g:Mg} {a:Mc} {c:Cal} {l:List Va} {vs:Value} {w:World} (H:CA w0 g w a c l vs) (n:Nat) (k:Int) (hn:n<c.locs.length) (hk:1≤k∧k≤3) (h2:k=2→n+1<c.locs.length) (hv:(nth va0 c.locs n).kind≠k) :
  Calls Tryz.prog 199 #[.slice (some ⟨a.lb,0,none⟩) c.locs.length a.lc,.int .i64 (n:Int),.int .i64 k] w fun e w'=>e=stopE 6 0 0∧Bl w w':=by
 have hl:=H.rel.len
 have hs:=H.short
 rw [←hl]
 by_cases hm:(nth va0 l n).kind=k
 ·by_cases h:k=2
  ·subst h
   refine read_lost a.lb a.lc n l w H.lbox (by have:=h2 rfl;omega) (by omega) hm fun h4=>hv ?_
   rw [H.rel.back n (by omega) (by omega) (fun _=>h4)]
   exact hm
  ·exact absurd ((H.rel.back n (by omega) (by omega) (fun q=>absurd (hm.symm.trans q) h)).trans hm) hv
 ·exact read_kind a.lb a.lc n l k w H.lbox (by omega) (by omega) hm
theorem RXA.setl {s:Nat} {X:Nat→Prop} {wx w0 w w':World} {g:Mg} {h:Hp} {qs:List Qb} {a:Mc} {c:Cal} {vc vo vx vs:Value} {l l':List Va} (H:RXA s X wx w0 g w h qs a c vc vo vx vs l) (hg:w.grownBy w' (some a.lb)) (hb:LBox w' a.lb l') {L:List Va} (hr:LRel L l') (hL:L.length=c.locs.length) :
  RXA s X wx w0 g w' h qs a { c with locs:=L } vc vo vx vs l':=by
 have hf:=(H.ca.far H.rh).2.1
 have hql:a.q≠a.lb:=blk_ne H.ca.blk H.ca.loc (by decide)
 refine ⟨H.rh.kept hg (fun b e=>?_),⟨H.ca.own,H.ca.ownl,H.ca.ownb,?_,grown_blk hg H.ca.box (fun e=>blk_ne H.ca.box H.ca.loc (by decide) (Option.some.inj e).symm),hb.blk,hr,H.ca.stk.kept hg (Or.inr H.ca.apart),H.ca.apart,H.ca.me,by dsimp only;rw [hL];exact H.ca.short,H.ca.kinds⟩,H.farr,H.farc,H.kept.kept hg (fun b e hx=>?_)⟩
 ·cases e;exact ⟨H.ca.ownl,hf⟩
 ·have:=grown_blk hg H.ca.blk (fun e=>hql (Option.some.inj e).symm)
  rw [this]
  unfold callRow
  dsimp only
  rw [hL]
 ·cases e;exact (H.farc _ hx).l rfl
theorem write_any (s:Nat) (X:Nat→Prop) (wx w0:World) (g:Mg) (h:Hp) (qs:List Qb) (a:Mc) (c:Cal) (n:Nat) (v:Va) (w:World) (H:RX s X wx w0 g w h qs a c) (hn:n<c.locs.length) (hv:1≤v.kind∧v.kind≤3) (h2:v.kind=2→n+1<c.locs.length) :
  Calls Tryz.prog 132 #[.slice (some ⟨a.lb,0,none⟩) c.locs.length a.lc,.int .i64 (n:Int),mvV (im v)] w fun e w'=>e=.returned (.tuple #[])∧RX s X wx w0 g w' h qs a { c with locs:=stoP c.locs n v }:=by
 obtain ⟨vc,vo,vx,vs,l,H⟩:=H
 have hl:=H.ca.rel.len
 have hs:=H.ca.short
 have hr:=H.ca.rel.sto hn v hv h2
 have hL:(stoP c.locs n v).length=c.locs.length:=sto_length _ _ _
 by_cases hk:v.kind=2
 ·have e:stoM l n (im v)=(l.set n (im v)).set (n+1) ⟨4,0⟩:=by unfold stoM;rw [if_pos (by exact hk)]
  rw [e] at hr
  rw [←hl]
  refine (write_long a.lb a.lc n l (im v) w H.ca.lbox (by have:=h2 hk;omega) (by omega) hk).mono ?_
  rintro x w' ⟨rfl,h3,h4⟩
  exact ⟨rfl,vc,vo,vx,vs,_,H.setl h4 h3 hr hL⟩
 ·have e:stoM l n (im v)=l.set n (im v):=by unfold stoM;rw [if_neg (by exact hk)]
  rw [e] at hr
  rw [←hl]
  refine (write_num a.lb a.lc n l (im v) w H.ca.lbox (by omega) (by omega) hk).mono ?_
  rintro x w' ⟨rfl,h3,h4⟩
  exact ⟨rfl,vc,vo,vx,vs,_,H.setl h4 h3 hr hL⟩
theorem RXY.hb {s:Nat} {X Y:Nat→Prop} {wx w0 w:World} {g:Mg} {h:Hp} {qs:List Qb} {a:Mc} {c:Cal} (H:RXY s X Y wx w0 g w h qs a c):w.cell? ⟨a.q,0,none⟩=some (.pointer (some ⟨g.hb,0,none⟩)):=by
 obtain ⟨vc,vo,vx,vs,l,H,F⟩:=H
 exact H.ca.cells.c0
theorem RX.qlt {s:Nat} {X:Nat→Prop} {wx w0 w:World} {g:Mg} {h:Hp} {qs:List Qb} {a:Mc} {c:Cal} (H:RX s X wx w0 g w h qs a c):a.q<w.heap.size:=by
 obtain ⟨vc,vo,vx,vs,l,H⟩:=H
 exact lt_some H.ca.blk
theorem two_lie (w:World) (a b:Array Value) (s t:TypeId):((w.alloc (.cells a s)).alloc (.cells b t)).heap[w.heap.size]?=some (.cells a s (0,0))∧((w.alloc (.cells a s)).alloc (.cells b t)).heap[w.heap.size+1]?=some (.cells b t (0,0)):=by
 have h1:(w.alloc (.cells a s)).heap.size=w.heap.size+1:=by simp
 refine ⟨?_,?_⟩
 ·rw [Below.heap_alloc _ _ _ (by omega)];exact blk_new _ _ _
 ·rw [←h1];exact blk_new _ _ _
theorem lt_w1 (w:World) (o:Obj):w.heap.size<(w.alloc o).heap.size:=by simp
theorem lt_w2a (w:World) (o p:Obj):w.heap.size<((w.alloc o).alloc p).heap.size:=by simp;omega
theorem lt_w2b (w:World) (o p:Obj):w.heap.size+1<((w.alloc o).alloc p).heap.size:=by simp
theorem set_two_far {w:World} {b b':Nat} {o:Obj} (h:w.heap[b]?=some o) (hb:b≠b') (k n:Value):((w.setCell ⟨b',0,none⟩ k).setCell ⟨b',1,none⟩ n).heap[b]?=some o:=by rw [block_far hb,block_far hb];exact h
theorem info_mvm:(Tryz.prog.info? 115).map (fun i=>(i.zero,i.size,i.bytes))=some (some (.agg #[.int .i64 0,.int .i64 0]),2,16):=by kernel_rfl
theorem rep_atM:∀(k j:Nat),j<k*2→(vaCells (List.replicate k va0))[j]?=some (.int .i64 0)
 | 0,j,h=>by omega
 | k+1,0,_=>by rw [List.replicate_succ];rfl
 | k+1,1,_=>by rw [List.replicate_succ];rfl
 | k+1,j+2,h=>by
  rw [List.replicate_succ]
  show (vaCells (List.replicate k va0))[j]?=_
  exact rep_atM k j (by omega)
theorem made_mv (k:Nat):madeCells #[.int .i64 0,.int .i64 0] (k*2)=(vaCells (List.replicate k va0)).toArray:=by
 apply Array.ext_getElem?
 intro j
 by_cases hj:j<k*2
 ·have h2:=rep_atM k j hj
  simp only [List.getElem?_toArray,h2]
  unfold madeCells
  have hm:j%2=0∨j%2=1:=by omega
  rcases hm with hm|hm<;>simp [hj,hm]
 ·rw [Array.getElem?_eq_none (by rw [size_madeCells];omega),Array.getElem?_eq_none (by simp [vaCells_length];omega)]
theorem make_mv (n:Nat) (hn:n≤1000000) (u:World):(Instr.makeSlice 103 (.int .i64 (n:Int)) (.int .i64 (n:Int))).run Tryz.prog u=.ok (.slice (some ⟨u.heap.size,0,none⟩) n n) (u.alloc (.cells (vaCells (List.replicate n va0)).toArray 115)):=by
 obtain ⟨i,hi,hz,hs,hb⟩:=info_parts info_mvm
 have h:=run_make u 103 115 i _ Tryz.underlying103 hi hz .i64 .i64 (n:Int) (n:Int) (by omega) (Int.le_refl _) (by rw [hb];omega) (by omega)
 rw [hs] at h
 simp only [Int.toNat_natCast] at h
 rw [←made_mv]
 exact h
theorem make_sl (n:Nat) (hn:n≤1000000) (u:World):(Instr.makeSlice 113 (.int .i64 (n:Int)) (.int .i64 (n:Int))).run Tryz.prog u=.ok (.slice (some ⟨u.heap.size,0,none⟩) n n) (u.alloc (.cells (vaCells (List.replicate n va0)).toArray 115)):=by
 obtain ⟨i,hi,hz,hs,hb⟩:=info_parts info_mvm
 have h:=run_make u 113 115 i _ Tryz.underlying113 hi hz .i64 .i64 (n:Int) (n:Int) (by omega) (Int.le_refl _) (by rw [hb];omega) (by omega)
 rw [hs] at h
 simp only [Int.toNat_natCast] at h
 rw [←made_mv]
 exact h
theorem LBox.new (w:World) (l:List Va):LBox (w.alloc (.cells (vaCells l).toArray 115)) w.heap.size l:=⟨blk_new _ _ _⟩
theorem RXY.bl0 {s:Nat} {X Y:Nat→Prop} {wx w0 w:World} {g:Mg} {h:Hp} {qs:List Qb} {a:Mc} {c:Cal} (H:RXY s X Y wx w0 g w h qs a c):Bl w0 w:=by
 obtain ⟨vc,vo,vx,vs,l,H,-⟩:=H
 exact H.rh.bl
def anyR (l:List Ty):Bool:=l.any fun t=>decide (t.kind=3)
theorem anyR_hit {l:List Ty} {q:Nat} (hq:q<l.length) (h:(nth ty0 l q).kind=3):anyR l=true:=by
 unfold anyR;rw [List.any_eq_true];exact ⟨nth ty0 l q,nth_mem hq,by simpa using h⟩
theorem anyR_miss {l:List Ty} (h:∀q,q<l.length→(nth ty0 l q).kind≠3):anyR l=false:=by
 unfold anyR;rw [List.any_eq_false]
 intro x hx
 obtain ⟨k,hk,rfl⟩:=List.getElem_of_mem hx
 rw [←nth_get (d:=ty0) hk]
 simpa using h k hk
theorem takes_any (A R:Option Addr) (cap n rc:Nat) (ts:List Ty) (w:World) (hT:TysAt w A ts) (hn:n≤maxLen) :
  Calls Tryz.prog 145 #[.slice A ts.length cap,.slice R n rc] w fun e w'=>e=.returned (.bool (!(anyR ts)&&decide (n=ts.length)))∧Bl w w':=by
 have HT:=hid hT
 have hlm:=hT.1
 unfold maxLen at hlm hn
 clear hT
 have HHIT:Hid (∀q,q<ts.length→(nth ty0 ts q).kind=3→anyR ts=true):=fun q hq h=>anyR_hit hq h
 have HMISS:Hid ((∀q,q<ts.length→(nth ty0 ts q).kind≠3)→anyR ts=false):=anyR_miss
 obtain ⟨T,hTT⟩:∃T,anyR ts=T:=⟨_,rfl⟩
 rw [hTT] at HHIT HMISS ⊢
 clear hTT
 have hd:decide (n=ts.length)=((n:Int)==(ts.length:Int)):=by rw [Bool.eq_iff_iff];simp;omega
 rw [hd]
 clear hd
 go_enter Tryz.func145,Tryz.ntmps145
 go_wp2
 go_loopw [9] (fun i wr=>∃q:Nat,q≤ts.length∧i=.int .i64 q∧Hid (∀j,j<q→(nth ty0 ts j).kind≠3)∧Hid (Bl w wr)) (fun i _=>ts.length-(intOf i).toNat)
 case atStart=>exact ⟨0,Nat.zero_le _,rfl,fun j hj=>absurd hj (Nat.not_lt_zero _),Bl.refl _⟩
 case round =>
  obtain ⟨q,hq,rfl,hgq,hg⟩:=hrel
  by_cases hql:q<ts.length
  ·rcases (HT.out.bl hg.out).2 with z0|⟨b,off,rfl,hcell⟩
   ·omega
   obtain ⟨x0,x1,-,-⟩:=hcell q hql
   have HH:=hid (HHIT.out q hql)
   generalize hX:nth ty0 ts q=t at *
   have HX:=hid hX
   clear hcell hX
   by_cases h3:t.kind=3
   ·have HF:=hid (HH.out h3)
    have k3:(t.kind==3)=true:=by simpa using h3
    have H3:=hid h3
    clear h3 HH
    go_wp2
    go_ret
    exact ⟨ret_bool (by rw [HF.out];rfl),hg.out.alloc _⟩
   ·have k3:(t.kind==3)=false:=by simpa using h3
    have H3:Hid (¬t.kind=3):=h3
    clear h3 HH
    go_wp2
    go_roundw
    case rel=>exact ⟨q+1,by omega,by go_num,fun j hj=>if h:j<q then hgq.out j h else by have:j=q:=(by omega);subst this;rw [HX.out];exact H3.out,hg.out.alloc _⟩
    case measure=>simp [intOf];omega
  ·obtain rfl:q=ts.length:=by omega
   have HF:=hid (HMISS.out hgq.out)
   go_wp2
   all_goals
    go_ret
    refine ⟨ret_bool ?_,hg.out⟩
    rw [HF.out]
    simp [*]
def pvM (ts:List Ty) (args:List Int) (j:Nat):Va:=⟨(nth ty0 ts j).kind,if (nth ty0 ts j).kind=1 then wrap32 (nth (0:Int) args j) else nth (0:Int) args j⟩
def pvL (ts:List Ty) (args:List Int) (q:Nat):List Va:=(List.range ts.length).map (fun j=>if j<q then pvM ts args j else va0)
theorem pvL_zero (ts:List Ty) (args:List Int):pvL ts args 0=List.replicate ts.length va0:=by
 unfold pvL
 apply List.ext_getElem
 ·simp
 ·intro i h1 h2;simp
theorem pvL_length (ts:List Ty) (args:List Int) (q:Nat):(pvL ts args q).length=ts.length:=by simp [pvL]
theorem pvL_set (ts:List Ty) (args:List Int) (q:Nat):(pvL ts args q).set q (pvM ts args q)=pvL ts args (q+1):=by
 unfold pvL
 apply List.ext_getElem
 ·simp
 ·intro i h1 h2
  simp only [List.getElem_set,List.getElem_map,List.getElem_range]
  by_cases hi:q=i
  ·subst hi;simp
  ·rw [if_neg hi]
   by_cases hlt:i<q
   ·rw [if_pos hlt,if_pos (by omega)]
   ·rw [if_neg hlt,if_neg (by omega)]
theorem values_any (A R:Option Addr) (cap n rc:Nat) (ts:List Ty) (args:List Int) (w:World) (hT:TysAt w A ts) (hR:IntsAt w R args) (hl:args.length=ts.length) (h4:ts.length≤4) (hk:∀q,q<ts.length→(nth ty0 ts q).kind=1∨(nth ty0 ts q).kind=2) :
  Calls Tryz.prog 72 #[.slice A ts.length cap,.slice R args.length rc] w fun e w'=>e=.returned (.slice (some ⟨w.heap.size,0,none⟩) ts.length ts.length)∧LBox w' w.heap.size (pvL ts args ts.length)∧Bl w w':=by
 have HT:=hid hT
 have HR:=hid hR
 have HK:=hid hk
 have hmk:=make_mv ts.length (by omega)
 have HS:Hid (Bl w (w.alloc (.cells (vaCells (List.replicate ts.length va0)).toArray 115))∧LBox (w.alloc (.cells (vaCells (List.replicate ts.length va0)).toArray 115)) w.heap.size (pvL ts args 0)) :=
  ⟨(Bl.refl w).alloc _,by rw [pvL_zero];exact LBox.new w _⟩
 rw [hl]
 have HL:=hid hl
 clear hT hR hk hl
 go_enter Tryz.func72,Tryz.ntmps72
 go_wp2
 go_loopw [13] (fun i wr=>∃q:Nat,q≤ts.length∧i=.int .i64 q∧Hid (Bl w wr∧LBox wr w.heap.size (pvL ts args q))) (fun i _=>ts.length-(intOf i).toNat)
 case atStart=>exact ⟨0,Nat.zero_le _,rfl,HS.out⟩
 case round =>
  clear HS hmk
  obtain ⟨q,hq,rfl,HB⟩:=hrel
  by_cases hql:q<ts.length
  ·rcases (HT.out.bl HB.out.1).2 with z0|⟨tb,to,rfl,hcell⟩
   ·omega
   rcases (HR.out.bl HB.out.1).2 with z0|⟨rb,ro,rfl,hrc⟩
   ·have:=HL.out;omega
   obtain ⟨x0,x1,-,-⟩:=hcell q hql
   obtain ⟨y0,-⟩:=hrc q (by rw [HL.out];exact hql)
   have hkq:=HK.out q hql
   have HPS:=hid (pvL_set ts args q)
   have HPM:Hid (pvM ts args q=⟨(nth ty0 ts q).kind,if (nth ty0 ts q).kind=1 then wrap32 (nth (0:Int) args q) else nth (0:Int) args q⟩):=rfl
   generalize hX:nth ty0 ts q=t at *
   generalize hY:nth (0:Int) args q=a at *
   clear hcell hrc hX hY
   have hrlt:rb<w.heap.size:=by
    rcases HR.out.2 with z0|⟨rb',ro',ee,hrc⟩
    ·have:=HL.out;omega
    ·cases ee
     exact cell_lt (hrc q (by rw [HL.out];exact hql)).1
   have hnr:w.heap.size≠rb:=by omega
   have hnr2:rb≠w.heap.size:=by omega
   have y0a:∀o,(wr.alloc o).cell? ⟨rb,ro+q,none⟩=some (.int .i64 a):=fun o=>((Bl.refl wr).alloc o).cell y0
   have hlt:=lt_some HB.out.2.blk
   have hne:w.heap.size≠wr.heap.size:=by omega
   have hne2:wr.heap.size≠w.heap.size:=by omega
   have HBN:=hid (blk_new wr #[.int .i64 t.kind,.int .i64 t.cls] 46)
   have hqL:q<(pvL ts args q).length:=by rw [pvL_length];exact hql
   have HQL:=hid hqL
   have HAW:Hid (Bl wr (wr.alloc (tyMO t))):=(Bl.refl wr).alloc _
   clear hqL
   have FST:Hid (∀w1,Bl (wr.alloc (tyMO t)) w1→LBox w1 w.heap.size (pvL ts args q)∧w1.cell? ⟨wr.heap.size,0,none⟩=some (.int .i64 t.kind)):=fun w1 b1=>⟨HB.out.2.bl (HAW.out.trans b1),c0_of (bl_blk b1 HBN.out)⟩
   rcases hkq with h1|h2
   ·have HT1:=hid h1
    have k1:(t.kind==1)=true:=by simpa using h1
    clear h1
    obtain ⟨N,hN⟩:∃N,wrap32 a=N:=⟨_,rfl⟩
    have HN:=hid hN
    go_wp2_with (first
     | (have:=L2;go_at_call 149;refine (narrow_any _ _).mono ?_;rintro e w5 ⟨he,hw5⟩;rw [hN] at he;subst he;rw [hw5];clear hw5 w5)
     | (have:=L2;go_at_call 148;refine (mint_any N _).mono ?_;rintro e w3 ⟨rfl,b3⟩;have L3:=L2.out.bl b3;have z0:=L3.c0 (i:=q) (by rw [List.length_set];exact HQL.out);have z1:=L3.c1 (i:=q) (by rw [List.length_set];exact HQL.out);have fz3:=free_blk L3.blk;replace b3:=hid b3;have L3:=hid L3)
     | (go_at_call 147;refine (mlong_any a _).mono ?_;rintro e w1 ⟨rfl,b1⟩;obtain ⟨L1,kt⟩:=FST.out w1 b1;have v0:=L1.c0 HQL.out;have v1:=L1.c1 HQL.out;have fz1:=free_blk L1.blk;have L2:=hid (L1.set HQL.out ⟨2,a⟩);have y5:=(HAW.out.trans b1).cell y0;replace b1:=hid b1;replace L1:=hid L1))
    go_roundw
    case rel =>
     refine ⟨q+1,by omega,by go_num,?_,?_⟩
     ·have h1:Bl w w1:=(HB.out.1.trans HAW.out).trans b1.out
      have h2:=(h1.setCell (p:=⟨w.heap.size,q*2,none⟩) (Nat.le_refl _) (.int .i64 2)).setCell (p:=⟨w.heap.size,q*2+1,none⟩) (Nat.le_refl _) (.int .i64 a)
      have h3:=h2.trans b3.out
      exact (h3.setCell (p:=⟨w.heap.size,q*2,none⟩) (Nat.le_refl _) _).setCell (p:=⟨w.heap.size,q*2+1,none⟩) (Nat.le_refl _) _
     ·have:=L3.out.set (i:=q) (by rw [List.length_set];exact HQL.out) ⟨1,N⟩
      rw [List.set_set] at this
      rw [←HPS.out,HPM.out,HT1.out,if_pos rfl,HN.out]
      exact this
    case measure=>simp [intOf];omega
   ·have HT2:=hid h2
    have k1:(t.kind==1)=false:=by rw [h2];rfl
    clear h2
    go_wp2_with (first
     | (go_at_call 147;refine (mlong_any a _).mono ?_;rintro e w1 ⟨rfl,b1⟩;obtain ⟨L1,kt⟩:=FST.out w1 b1;have v0:=L1.c0 HQL.out;have v1:=L1.c1 HQL.out;have fz1:=free_blk L1.blk;have L2:=hid (L1.set HQL.out ⟨2,a⟩);replace b1:=hid b1;replace L1:=hid L1))
    go_roundw
    case rel =>
     refine ⟨q+1,by omega,by go_num,?_,?_⟩
     ·have h1:Bl w w1:=(HB.out.1.trans HAW.out).trans b1.out
      exact (h1.setCell (p:=⟨w.heap.size,q*2,none⟩) (Nat.le_refl _) _).setCell (p:=⟨w.heap.size,q*2+1,none⟩) (Nat.le_refl _) _
     ·rw [←HPS.out,HPM.out,HT2.out,if_neg (by decide)]
      exact L2.out
    case measure=>simp [intOf];omega
  ·obtain rfl:q=ts.length:=by omega
   go_wp2
   go_ret
   exact ⟨rfl,HB.out.2,HB.out.1⟩
theorem two_lieO (w:World) (a b:Array Value) (s t:TypeId):((w.alloc (.cells a s)).alloc (.cells b t)).heap[w.heap.size]?=some (.cells a s (0,0))∧((w.alloc (.cells a s)).alloc (.cells b t)).heap[w.heap.size+1]?=some (.cells b t (0,0)):=by
 have h1:(w.alloc (.cells a s)).heap.size=w.heap.size+1:=by simp
 refine ⟨?_,?_⟩
 ·rw [Below.heap_alloc _ _ _ (by omega)];exact blk_new _ _ _
 ·rw [←h1];exact blk_new _ _ _
theorem cast_nil (hb:Nat) (v:Va) (cc:Int) (w:World) (hk:v.kind=3) (hv:v.n=-1) :
  Calls Tryz.prog 206 #[.pointer (some ⟨hb,0,none⟩),mvV (im v),.int .i64 cc] w fun e w'=>e=.returned (mvV (im v))∧Bl w w':=by
 have HN:Hid (isN (im v)=true):=isN_yes hk hv
 obtain ⟨L0,L1⟩:=two_lieO w #[.int .i64 (im v).kind,.int .i64 (im v).n] #[.int .i64 0,.int .i64 0] 115 115
 have HL0:=hid L0
 have HL1:=hid L1
 have HB:Hid (Bl w ((w.alloc (mvO (im v))).alloc mvZ)):=((Bl.refl w).alloc _).alloc _
 clear hk hv L0 L1
 go_enter Tryz.func206,Tryz.ntmps206
 go_wp2_with (go_at_call 138;refine (isNothing_any (im v) _).mono ?_;rintro e w2 ⟨he,b2⟩;rw [HN.out] at he;subst he;have q0:=bl_blk b2 HL0.out;have q1:=bl_blk b2 HL1.out;have c0:=c0_of q0;have c1:=c1_of q0;have c4:=c0_of q1;have c5:=c1_of q1;have fz:=free_blk q1;replace b2:=hid b2;replace q1:=hid q1;clear q0)
 refine bodyPost_ret (results_cell_row rfl _ _ (w.heap.size+1) _ _ _ _ rfl (set_two q1.out) Tryz.underlying115 rfl info_mv) rfl ?_
 exact ⟨rfl,bl_two (HB.out.trans b2.out) (Nat.le_succ _) _ _⟩
theorem cast_yes (g:Mg) (h:Hp) (v:Va) (cc:Int) (w:World) (R:HRd w g h) (hk:v.kind=3) (hv:0≤v.n) (hn:v.n<h.objs.length) (hz:belI h.file.classes (h.obj v.n).cls cc=true) :
  Calls Tryz.prog 206 #[.pointer (some ⟨g.hb,0,none⟩),mvV (im v),.int .i64 cc] w fun e w'=>e=.returned (mvV (im v))∧Bl w w':=by
 have HN:Hid (isN (im v)=false):=isN_no hk hv
 have HV:Hid (v.kind=3∧0≤v.n∧v.n<h.objs.length):=⟨hk,hv,hn⟩
 have HZ:=hid hz
 have HR:=hid R
 obtain ⟨L0,L1⟩:=two_lieO w #[.int .i64 (im v).kind,.int .i64 (im v).n] #[.int .i64 0,.int .i64 0] 115 115
 have HL0:=hid L0
 have HL1:=hid L1
 have HB:Hid (Bl w ((w.alloc (mvO (im v))).alloc mvZ)):=((Bl.refl w).alloc _).alloc _
 clear hk hv hn hz R L0 L1
 go_enter Tryz.func206,Tryz.ntmps206
 go_wp2_with (first
  | (go_at_call 138;refine (isNothing_any (im v) _).mono ?_;rintro e w2 ⟨he,b2⟩;rw [HN.out] at he;subst he;have q0:=bl_blk b2 HL0.out;have q1:=bl_blk b2 HL1.out;have c0:=c0_of q0;have c1:=c1_of q0;replace b2:=hid b2;replace q1:=hid q1;replace q0:=hid q0)
  | (go_at_call 210;refine (mbelow_yes g h v cc _ (HR.out.bl (HB.out.trans b2.out)) HV.out.1 HV.out.2.1 HV.out.2.2).mono ?_;rintro e w3 ⟨he,b3⟩;rw [HZ.out] at he;subst he;replace q0:=hid (bl_blk b3 q0.out);replace q1:=hid (bl_blk b3 q1.out);replace b2:=hid (b2.out.trans b3);clear c0 c1;have c0:=c0_of q0.out;have c1:=c1_of q0.out;have c4:=c0_of q1.out;have c5:=c1_of q1.out;have fz:=free_blk q1.out))
 refine bodyPost_ret (results_cell_row rfl _ _ (w.heap.size+1) _ _ _ _ rfl (set_two q1.out) Tryz.underlying115 rfl info_mv) rfl ?_
 exact ⟨rfl,bl_two (HB.out.trans b2.out) (Nat.le_succ _) _ _⟩
theorem cast_no (s:Nat) (X:Nat→Prop) (wx w0:World) (g:Mg) (h:Hp) (qs:List Qb) (a:Mc) (c:Cal) (v:Va) (cc:Int) (w:World) (H:RX s X wx w0 g w h qs a c) (F:Fix w0 g h) (hl:h.objs.length≤100) (ho:h.over=false) (hk:v.kind=3) (hv:0≤v.n) (hn:v.n<h.objs.length) (hz:belI h.file.classes (h.obj v.n).cls cc=false) :
  Calls Tryz.prog 206 #[.pointer (some ⟨g.hb,0,none⟩),mvV (im v),.int .i64 cc] w fun e w'=>e=raiseE h∧RX s X wx w0 g w' (h.raise 3) qs a c:=by
 have HN:Hid (isN (im v)=false):=isN_no hk hv
 have HV:Hid (v.kind=3∧0≤v.n∧v.n<h.objs.length):=⟨hk,hv,hn⟩
 have HZ:=hid hz
 have HH:=hid H
 have HL:=hid (And.intro hl ho)
 have HR:=hid (H.rd F hl)
 obtain ⟨L0,L1⟩:=two_lieO w #[.int .i64 (im v).kind,.int .i64 (im v).n] #[.int .i64 0,.int .i64 0] 115 115
 have HL0:=hid L0
 have HB:Hid (Bl w ((w.alloc (mvO (im v))).alloc mvZ)):=((Bl.refl w).alloc _).alloc _
 obtain ⟨E,hE⟩:∃E,raiseE h=E:=⟨_,rfl⟩
 have HE:=hid hE
 rw [hE]
 have HX:Hid (∃ch,E=.panicked ch):=by
  rw [←hE];unfold raiseE;split<;>exact ⟨_,rfl⟩
 clear hk hv hn hz L0 L1 H F hl ho hE
 obtain ⟨ch,rfl⟩:=HX.out
 go_enter Tryz.func206,Tryz.ntmps206
 go_wp2_with (first
  | (go_at_call 138;refine (isNothing_any (im v) _).mono ?_;rintro e w2 ⟨he,b2⟩;rw [HN.out] at he;subst he;have q0:=bl_blk b2 HL0.out;have c0:=c0_of q0;have c1:=c1_of q0;replace b2:=hid b2;clear q0)
  | (go_at_call 210;refine (mbelow_yes g h v cc _ (HR.out.bl (HB.out.trans b2.out)) HV.out.1 HV.out.2.1 HV.out.2.2).mono ?_;rintro e w3 ⟨he,b3⟩;rw [HZ.out] at he;subst he;replace b2:=hid (b2.out.trans b3))
  | (go_at_call 264;refine (throwNew_any s X wx w0 g h qs a c 3 _ (HH.out.bl (HB.out.trans b2.out)) HL.out.1 HL.out.2).mono ?_;rintro e w4 ⟨he,H4⟩;rw [HE.out] at he;subst he;replace H4:=hid H4))
 exact ⟨rfl,rfl,H4.out⟩
theorem work_run (k op:Int) (a b:Va) (hk:k=1∨k=2) (w:World):Calls Tryz.prog (if k=1 then 324 else 323) #[.int .i64 op,.int .i64 a.n,.int .i64 b.n] w fun e w'=>e=.returned (.tuple #[.int .i64 (reckN k op a b),.bool (reckB k op a b)])∧w'=w:=by
 unfold reckN reckB
 rcases hk with rfl|rfl
 ·rw [if_pos rfl,if_pos rfl,if_pos rfl];exact int_any op a.n b.n w
 ·rw [if_neg (by decide),if_neg (by decide),if_neg (by decide)];exact long_any op a.n b.n w
theorem reckon_yes (hb:Nat) (k op:Int) (a b:Va) (hk:k=1∨k=2) (hr:reckB k op a b=true) (w:World) :
  Calls Tryz.prog 314 #[.pointer (some ⟨hb,0,none⟩),.int .i64 k,.int .i64 op,mvV a,mvV b] w fun e w'=>e=.returned (mvV ⟨k,reckN k op a b⟩)∧Bl w w':=by
 obtain ⟨L0,L1,L2⟩:=three_lie w #[.int .i64 a.kind,.int .i64 a.n] #[.int .i64 b.kind,.int .i64 b.n] #[.int .i64 0,.int .i64 0] 115 115 115
 have c0:=c1_of L0
 have c1:=c1_of L1
 have c4:=c0_of L2
 have c5:=c1_of L2
 have fz:=free_blk L2
 have HL2:=hid L2
 have HB:Hid (Bl w (((w.alloc (mvO a)).alloc (mvO b)).alloc mvZ)):=(((Bl.refl w).alloc _).alloc _).alloc _
 have HW:=hid (work_run k op a b hk)
 have HR:=hid hr
 clear L0 L1 L2 hr
 rcases hk with rfl|rfl
 ·rw [if_pos rfl] at HW
  go_enter Tryz.func314,Tryz.ntmps314
  go_wp2_with (go_at_call 324;refine (HW.out _).mono ?_;rintro e w2 ⟨he,hw⟩;rw [HR.out] at he;subst he;rw [hw];clear hw w2)
  refine bodyPost_ret (results_cell_row rfl _ _ (w.heap.size+1+1) _ _ _ _ rfl (three_lie w _ _ _ _ _ _).2.2 Tryz.underlying115 rfl info_mv) rfl ?_
  exact ⟨rfl,(((Bl.refl w).alloc _).alloc _).alloc _⟩
 ·rw [if_neg (by decide)] at HW
  go_enter Tryz.func314,Tryz.ntmps314
  go_wp2_with (go_at_call 323;refine (HW.out _).mono ?_;rintro e w2 ⟨he,hw⟩;rw [HR.out] at he;subst he;rw [hw];clear hw w2)
  refine bodyPost_ret (results_cell_row rfl _ _ (w.heap.size+1+1) _ _ _ _ rfl (three_lie w _ _ _ _ _ _).2.2 Tryz.underlying115 rfl info_mv) rfl ?_
  exact ⟨rfl,(((Bl.refl w).alloc _).alloc _).alloc _⟩
theorem reckon_no (s:Nat) (X:Nat→Prop) (wx w0:World) (g:Mg) (h:Hp) (qs:List Qb) (a:Mc) (c:Cal) (k op:Int) (u v:Va) (hk:k=1∨k=2) (hr:reckB k op u v=false) (w:World) (H:RX s X wx w0 g w h qs a c) (hl:h.objs.length≤100) (ho:h.over=false) :
  Calls Tryz.prog 314 #[.pointer (some ⟨g.hb,0,none⟩),.int .i64 k,.int .i64 op,mvV u,mvV v] w fun e w'=>e=raiseE h∧RX s X wx w0 g w' (h.raise 2) qs a c:=by
 obtain ⟨L0,L1,L2⟩:=three_lie w #[.int .i64 u.kind,.int .i64 u.n] #[.int .i64 v.kind,.int .i64 v.n] #[.int .i64 0,.int .i64 0] 115 115 115
 have c0:=c1_of L0
 have c1:=c1_of L1
 have HB:Hid (Bl w (((w.alloc (mvO u)).alloc (mvO v)).alloc mvZ)):=(((Bl.refl w).alloc _).alloc _).alloc _
 have HW:=hid (work_run k op u v hk)
 have HR:=hid hr
 have HH:=hid H
 have HL:=hid (And.intro hl ho)
 obtain ⟨E,hE⟩:∃E,raiseE h=E:=⟨_,rfl⟩
 have HE:=hid hE
 rw [hE]
 have HX:Hid (∃ch,E=.panicked ch):=by
  rw [←hE];unfold raiseE;split<;>exact ⟨_,rfl⟩
 clear L0 L1 L2 hr H hl ho hE
 obtain ⟨ch,rfl⟩:=HX.out
 rcases hk with rfl|rfl
 ·rw [if_pos rfl] at HW
  go_enter Tryz.func314,Tryz.ntmps314
  go_wp2_with (first
   | (go_at_call 324;refine (HW.out _).mono ?_;rintro e w2 ⟨he,hw⟩;rw [HR.out] at he;subst he;rw [hw];clear hw w2)
   | (go_at_call 264;refine (throwNew_any s X wx w0 g h qs a c 2 _ (HH.out.bl HB.out) HL.out.1 HL.out.2).mono ?_;rintro e w4 ⟨he,H4⟩;rw [HE.out] at he;subst he;replace H4:=hid H4))
  exact ⟨rfl,rfl,H4.out⟩
 ·rw [if_neg (by decide)] at HW
  go_enter Tryz.func314,Tryz.ntmps314
  go_wp2_with (first
   | (go_at_call 323;refine (HW.out _).mono ?_;rintro e w2 ⟨he,hw⟩;rw [HR.out] at he;subst he;rw [hw];clear hw w2)
   | (go_at_call 264;refine (throwNew_any s X wx w0 g h qs a c 2 _ (HH.out.bl HB.out) HL.out.1 HL.out.2).mono ?_;rintro e w4 ⟨he,H4⟩;rw [HE.out] at he;subst he;replace H4:=hid H4))
  exact ⟨rfl,rfl,H4.out⟩
section
open Go.Maps (Keyed has)
theorem info_i641:(Tryz.prog.info? 2).map (fun i=>(i.zero,i.size,i.bytes))=some (some (.int .i64 0),1,8):=by kernel_rfl
theorem RH.runCells {s:Nat} {w0 w:World} {g:Mg} {h:Hp} {qs:List Qb} {vc vo vx:Value} (H:RH s w0 g w h qs vc vo vx) :
  w.cell? ⟨g.r,0,none⟩=some (.pointer (some ⟨g.hb,0,none⟩))∧w.cell? ⟨g.r,1,none⟩=some (.slice g.M h.file.methods.length g.m)∧w.cell? ⟨g.r,2,none⟩=some (.func (.func 31) #[] #[])∧w.cell? ⟨g.r,3,none⟩=some vc
  ∧ w.cell? ⟨g.r,4,none⟩=some (.slice g.I h.input.length g.i)∧w.cell? ⟨g.r,5,none⟩=some (.int .i64 h.fuel)∧w.cell? ⟨g.r,6,none⟩=some (.int .i64 h.sh.steps)∧w.cell? ⟨g.r,7,none⟩=some (.int .i64 h.sh.used)∧w.cell? ⟨g.r,8,none⟩=some vx:=by
 refine ⟨?_,?_,?_,?_,?_,?_,?_,?_,?_⟩<;>(rw [cell_blk H.run];rfl)
def Hp.outs (h:Hp) (n:Int):Hp:={ h with sh:={ h.sh with out:=h.sh.out++[n] } }
def Hp.uses (h:Hp):Hp:={ h with sh:={ h.sh with used:=h.sh.used+1 } }
theorem RXA.emit {s:Nat} {X:Nat→Prop} {wx w0 w w2:World} {g:Mg} {h:Hp} {qs:List Qb} {a:Mc} {c:Cal} {vc vo vx vs v':Value} {l:List Va} (H:RXA s X wx w0 g w h qs a c vc vo vx vs l) (hg:w.grownBy w2 vx.ownBlock) {k:Int}
  (ho:w2.ownsRow w0.heap.size 2 1 v' (h.sh.out.length+1) (h.sh.out.map (Value.int .i64)++[.int .i64 k])) (hat:v'.ownBlock=vx.ownBlock∨∀b,v'.ownBlock=some b→w.heap.size≤b) :
  RXA s X wx w0 g (w2.setCell ⟨g.r,8,none⟩ v') (h.outs k) qs a c vc vo v' vs l:=by
 have R:=H.rh
 obtain ⟨n,D,F⟩:=R.fld
 obtain ⟨fr,fh,fm,fc,fo,fx⟩:=H.ca.farC R
 have hrow:∀b,vx.ownBlock=some b→w0.heap.size≤b:=fun b e=>(R.out.lt b e).1
 have n1:vx.ownBlock≠some g.r:=own_far R.out R.run (by decide)
 have n2:vx.ownBlock≠some g.hb:=own_far R.out R.hp (by decide)
 have n3:vx.ownBlock≠some g.mp:=map_row R.out F.own
 have hr2:=grown_blk hg R.run n1
 have hg2:=grown_set (w:=w2) g.r 8 v'
 have nrh:(some g.r:Option Nat)≠some g.hb:=fun e=>blk_ne R.hp R.run (by decide) (Option.some.inj e).symm
 have nrm:g.r≠g.mp:=map_ne R.run F.own
 have hne:∀(vv:Value) {b e sz nn xs},w.ownsRow b e sz vv nn xs→e≠2→vv.ownBlock=none∨vv.ownBlock≠vx.ownBlock:=fun vv b e sz nn xs hr he=>row_ne hr R.out he
 have C2:=H.ca.kept hg (fun b e=>fx b e)
 have far':∀b,X b→FarR g vc vo v' b:=fun b hx=>⟨(H.farr b hx).r,(H.farr b hx).h,(H.farr b hx).m,(H.farr b hx).c,(H.farr b hx).o,fun e=>by
  rcases hat with q|q
  ·rw [q] at e;exact (H.farr b hx).x e
  ·have:=q b e;have:=(H.kept.blk b hx).1;have:=H.kept.size;omega⟩
 refine ⟨⟨R.ownr,R.ownh,R.ownm,?_,?_,?_,?_,?_,?_,n,D,?_⟩,?_,far',H.farc,?_⟩
 ·exact Below.setCell (Below.grown R.bl hg R.bl.size hrow) R.ownr _
 ·rw [block_set hr2];rfl
 ·exact grown_blk hg2 (grown_blk hg R.hp n2) nrh
 ·have:=ho.kept hg2 (Or.inr (own_far ho hr2 (by decide)))
  simpa [Hp.outs] using this
 ·exact (R.obs.kept hg (hne vo R.obs (by decide))).kept hg2 (Or.inr (own_far (R.obs.kept hg (hne vo R.obs (by decide))) hr2 (by decide)))
 ·exact (R.calls.kept hg (hne vc R.calls (by decide))).kept hg2 (Or.inr (own_far (R.calls.kept hg (hne vc R.calls (by decide))) hr2 (by decide)))
 ·exact ⟨(F.own.kept hg (fun e=>n3 e.symm)).kept hg2 (fun e=>nrm (Option.some.inj e).symm),F.few,F.hit,F.miss,F.new,F.ks,F.kd⟩
 ·exact C2.kept hg2 (fun b e=>by cases e;exact ⟨fr.q,fr.l,fr.s,fr.x⟩)
 ·exact (H.kept.kept hg (fun b e hx=>(H.farr b hx).x e)).kept hg2 (fun b e hx=>by cases e;exact (H.farr _ hx).r rfl)
theorem RXA.setr {s s':Nat} {X:Nat→Prop} {wx w0 w:World} {g:Mg} {h h':Hp} {qs:List Qb} {a:Mc} {c:Cal} {vc vo vx vs v':Value} {l:List Va} (H:RXA s X wx w0 g w h qs a c vc vo vx vs l) {i:Nat} (hrow:(runRow g h vc vx).setIfInBounds i v'=runRow g h' vc vx)
  (e1:h'.file=h.file) (e2:h'.objs=h.objs) (e3:h'.sh.out=h.sh.out) (e4:h.sh.steps-s≤h'.sh.steps-s'):RXA s' X wx w0 g (w.setCell ⟨g.r,i,none⟩ v') h' qs a c vc vo vx vs l:=by
 have R:=H.rh
 obtain ⟨n,D,F⟩:=R.fld
 obtain ⟨fr,-⟩:=H.ca.farC R
 have hg2:=grown_set (w:=w) g.r i v'
 have nrh:(some g.r:Option Nat)≠some g.hb:=fun e=>blk_ne R.hp R.run (by decide) (Option.some.inj e).symm
 have nrm:g.r≠g.mp:=map_ne R.run F.own
 have r2:heapRow g h' vo=heapRow g h vo:=by unfold heapRow;rw [e1]
 refine ⟨⟨R.ownr,R.ownh,R.ownm,Below.setCell R.bl R.ownr _,?_,?_,?_,?_,?_,n,D,?_⟩,H.ca.kept hg2 (fun b e=>by cases e;exact fr),H.farr,H.farc,H.kept.kept hg2 (fun b e hx=>by cases e;exact (H.farr _ hx).r rfl)⟩
 ·rw [block_set R.run,hrow]
 ·rw [r2];exact grown_blk hg2 R.hp nrh
 ·rw [e3];exact R.out.kept hg2 (Or.inr (own_far R.out R.run (by decide)))
 ·rw [e2];exact R.obs.kept hg2 (Or.inr (own_far R.obs R.run (by decide)))
 ·exact R.calls.kept hg2 (Or.inr (own_far R.calls R.run (by decide)))
 ·exact ⟨F.own.kept hg2 (fun e=>nrm (Option.some.inj e).symm),by have:=F.few;omega,by rw [e2];exact F.hit,by rw [e2,e1];exact F.miss,by rw [e2];exact F.new,by rw [e2,e1];exact F.ks,by rw [e2,e1];exact F.kd⟩
theorem memit_any (s:Nat) (X:Nat→Prop) (wx w0:World) (g:Mg) (h:Hp) (qs:List Qb) (a:Mc) (c:Cal) (v:Va) (w:World) (H:RX s X wx w0 g w h qs a c) (ho:h.sh.out.length≤100000) :
  Calls Tryz.prog 208 #[.pointer (some ⟨g.r,0,none⟩),mvV v] w fun e w'=>e=.returned (.tuple #[])∧RX s X wx w0 g w' (h.outs v.n) qs a c:=by
 obtain ⟨i0,hi0,hz0,hz1,hz2⟩:=info_parts info_i641
 have hbs:=H.size
 obtain ⟨vc,vo,vx,vs,l,H⟩:=H
 obtain ⟨A,cap,hvx,h1,h2⟩:=own_form H.rh.out
 subst hvx
 have HH:=hid (H.bl ((Bl.refl w).alloc (mvO v)))
 have HL:=hid (blk_new w #[.int .i64 v.kind,.int .i64 v.n] 115)
 have x1:=c1_of HL.out
 have HX1:=H.rh.out
 have c8:=HH.out.rh.runCells.2.2.2.2.2.2.2.2
 have fz:=free_blk HH.out.rh.run 8
 have hq:=lt_some H.rh.run
 have HO:=hid HH.out.rh.out
 have HP:=hid (HH.out.rh.run)
 have HNB:Hid ((Value.slice A h.sh.out.length cap).ownBlock≠some w.heap.size):=fun e=>by have:=row_lt HX1 e;omega
 have HNH:=hid (own_far HO.out HP.out (by decide))
 clear H HX1
 go_enter Tryz.func208,Tryz.ntmps208
 go_wp2
 go_region_law ((refine step_append_lies _ (by rfl) _ _ _ (by rfl) w0.heap.size 2 i0 _ 1 8 Tryz.underlying26 hi0 hz0 hz1 hz2 rfl (by omega) (.slice A h.sh.out.length cap) h.sh.out.length (h.sh.out.map (Value.int .i64)) (by rfl) ((HO.out.alloc _).drew) ⟨w.heap.size+1,0,none⟩ 1 1 [.int .i64 v.n] (by rfl) (by rfl) (World.news_of_block (cs:=#[.int .i64 v.n]) (t:=2) (fr:=(0,0)) (by rw [←lt_sz w (mvO v)];exact blk_new _ _ _)) (by simp [Value.oneCell']) (by omega) (by unfold maxLen;omega) (by omega) (by simp;omega) _ rfl ?_;intro gb cp w1 hown hgrow hat hlt1;have hp2:=grown_blk hgrow ((Below.heap_alloc _ _ _ (lt_some HP.out)).trans HP.out) HNH.out;have hb2:=grown_blk hgrow ((Below.heap_alloc _ _ _ (lt_some HL.out)).trans HL.out) HNB.out;have q8:w1.cell? ⟨g.r,8,none⟩=some (.slice A h.sh.out.length cap):=(cell_blk hp2).trans rfl;have z8:=free_blk hp2 8;have y1:=c1_of hb2;have hql:=lt_some hp2;replace hown:=hid hown;replace hgrow:=hid hgrow;replace hat:=hid hat;clear hb2 hp2))
 all_goals
  go_wp2
  go_end0
  exact ⟨rfl,_,_,_,_,_,RXA.emit (HH.out.bl (((Bl.refl _).alloc _).drew)) hgrow.out hown.out (hat.out.elim (fun e=>Or.inl e.symm) (fun e=>Or.inr fun b hb=>Nat.le_of_eq (e.symm.trans (by simpa [Value.ownBlock] using hb))))⟩
theorem min_no (s:Nat) (X:Nat→Prop) (wx w0:World) (g:Mg) (h:Hp) (qs:List Qb) (a:Mc) (c:Cal) (w:World) (H:RX s X wx w0 g w h qs a c) (hd:h.dry=true) :
  Calls Tryz.prog 268 #[.pointer (some ⟨g.r,0,none⟩)] w fun e w'=>e=stopE 3 0 0∧RX s X wx w0 g w' h qs a c:=by
 have HH:=hid H
 obtain ⟨vc,vo,vx,vs,l,H⟩:=H
 have c4:=H.rh.runCells.2.2.2.2.1
 have c7:=H.rh.runCells.2.2.2.2.2.2.2.1
 have hq:=lt_some H.rh.run
 have hge:(h.input.length:Int)≤h.sh.used:=of_decide_eq_true hd
 clear H hd
 go_enter Tryz.func268,Tryz.ntmps268
 go_wp2
 go_quiet (fail)
 go_wp2_with (go_at_call 146;refine (mend_any 3 _).mono ?_;rintro e w1 ⟨rfl,hw⟩;rw [hw];clear hw w1)
 exact ⟨rfl,rfl,HH.out.bl (bl_drewN ((Bl.refl w).alloc _) _)⟩
theorem min_yes (s:Nat) (X:Nat→Prop) (wx w0:World) (g:Mg) (h:Hp) (qs:List Qb) (a:Mc) (c:Cal) (w:World) (H:RX s X wx w0 g w h qs a c) (hI:IntsAt w0 g.I h.input) (hd:h.dry=false) (hu:0≤h.sh.used) (hl:h.input.length≤1000000) :
  Calls Tryz.prog 268 #[.pointer (some ⟨g.r,0,none⟩)] w fun e w'=>e=.returned (mvV ⟨2,nth (0:Int) h.input h.sh.used.toNat⟩)∧RX s X wx w0 g w' h.uses qs a c:=by
 have hlt:h.sh.used<(h.input.length:Int):=by have:=of_decide_eq_false hd;omega
 obtain ⟨u,hu'⟩:∃u:Nat,h.sh.used=u:=⟨h.sh.used.toNat,by omega⟩
 have hul:u<h.input.length:=by omega
 rcases hI.2 with h0|⟨ib,io,hI',hic⟩
 ·omega
 have hx:=(hic u hul).1
 have e1:h.sh.used.toNat=u:=by omega
 rw [e1]
 have hbs:=H.size
 obtain ⟨vc,vo,vx,vs,l,H⟩:=H
 have HH:=hid (H.bl ((Bl.refl w).alloc mvZ))
 have HL:=hid (blk_new w #[.int .i64 0,.int .i64 0] 115)
 have c4:=H.rh.runCells.2.2.2.2.1
 have c7:=H.rh.runCells.2.2.2.2.2.2.2.1
 have fz:=free_blk H.rh.run
 have hq:=lt_some H.rh.run
 have xi:=Bl.cell H.rh.bl hx
 have hib:=cell_lt xi
 have hibr:ib≠g.r:=by have h1:=cell_lt hx;have h2:=H.rh.ownr;omega
 have HHR:Hid (∀nq,RXA s X wx w0 g (((w.alloc mvZ).drewN nq).setCell ⟨g.r,7,none⟩ (.int .i64 ((u:Int)+1))) h.uses qs a c vc vo vx vs l):=fun nq=>RXA.setr (HH.out.bl (bl_drewN (Bl.refl _) nq)) (by unfold runRow Hp.uses;simp [hu']) rfl rfl rfl (Int.le_refl _)
 have hqr:g.r≠w.heap.size:=by omega
 rw [hI'] at c4
 rw [hu'] at c7 hlt
 have hu0:(0:Int)≤(u:Int):=by omega
 have hlt':(u:Int)<(h.input.length:Int):=by omega
 have hs1:((u:Int)+1-1)=(u:Int):=by omega
 have hw1:IntKind.i64.wrap (u:Int)=(u:Int):=by rw [IntKind.wrap_i64];omega
 have HFar:=hid (H.rh.farNew (Nat.le_refl _))
 have HFac:=hid (H.ca.farNew (Nat.le_refl _))
 have HFx:Hid (¬X w.heap.size):=fun hx=>by have:=(H.kept.blk _ hx).1;have:=H.kept.size;omega
 have HX0:=hid hx
 have HU:=hid hu'
 have HI:=hid hI'
 clear H hd hu hic hx hI hu' e1 hI'
 generalize nth (0:Int) h.input u=V at *
 go_enter Tryz.func268,Tryz.ntmps268
 go_wp2
 go_quiet (fail)
 go_wp2
 have HA:=HHR.out nq
 have b0:(((w.alloc mvZ).drewN nq).setCell ⟨g.r,7,none⟩ (.int .i64 ((u:Int)+1))).heap[w.heap.size]?=some (.cells #[.int .i64 0,.int .i64 0] 115 (0,0)):=block_far' HL.out (fun e=>hqr e.symm) _
 generalize (((w.alloc mvZ).drewN nq).setCell ⟨g.r,7,none⟩ (.int .i64 ((u:Int)+1)))=W at *
 have k4:=HA.rh.runCells.2.2.2.2.1
 have k7:=HA.rh.runCells.2.2.2.2.2.2.2.1
 have ki:=Bl.cell HA.rh.bl HX0.out
 have e7:h.uses.sh.used=(u:Int)+1:=by unfold Hp.uses;dsimp only;rw [HU.out]
 have e4:h.uses.input=h.input:=rfl
 rw [e7] at k7
 rw [e4,HI.out] at k4
 have hwl:=lt_some b0
 have n1:w.heap.size≠g.r:=fun e=>hqr e.symm
 have n2:w.heap.size≠ib:=by omega
 replace HA:=hid HA
 replace b0:=hid b0
 clear HHR e7 e4
 go_region_held3 (fun w'=>w'.cell? ⟨g.r,4,none⟩=some (.slice (some ⟨ib,io,none⟩) h.input.length g.i)∧w'.cell? ⟨g.r,7,none⟩=some (.int .i64 ((u:Int)+1))∧w'.cell? ⟨ib,io+u,none⟩=some (.int .i64 V))
  (go_keep)
  (first
   | (go_at_call 147;refine (mlong_any V _).mono ?_;rintro e w2 ⟨rfl,b2⟩;have d4:=b2.cell k4;have d7:=b2.cell k7;have di:=b2.cell ki;have q0:=bl_blk b2 b0.out;have r0:=c0_of q0;have r1:=c1_of q0;have rz:=free_blk q0;replace b2:=hid b2;replace q0:=hid q0))
 go_wp2
 refine bodyPost_ret (results_cell_row rfl _ _ w.heap.size _ _ _ _ rfl (set_two q0.out) Tryz.underlying115 rfl info_mv) rfl ?_
 refine ⟨rfl,RXY.x (RXY.set (Y:=fun b=>b=w.heap.size) (b:=w.heap.size) (RXY.set (Y:=fun b=>b=w.heap.size) (b:=w.heap.size) ⟨vc,vo,vx,vs,l,HA.out.bl ((Bl.refl _).drew.trans b2.out),fun b hb=>?_⟩ rfl 0 _) rfl 1 _)⟩
 subst hb
 exact ⟨lt_some q0.out,hbs,HFx.out,HFar.out,HFac.out⟩
end
end Go.Proofs.YtgiiapenmjollabGreat
