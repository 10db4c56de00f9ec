import Derived.Test.YtgiiapenmjollaaGreatSsad
import Derived.Deep.RegionLaw
import Derived.Test.YtgiiapenmjollaaGreatChecked
import Derived.Deep.RegionHeld3
import Derived.RowKit3
import Derived.Handy
namespace Go.Proofs.YtgiiapenmjollaaGreat
set_option linter.all false
set_option maxHeartbeats 40000000
set_option maxRecDepth 100000
open Go.RowKit
section
structure Cx (w0 w1:World) (g:Gf) (f:Fi) (m:Me):Prop where
 q:∃A c,w1.heap[g.q]?=some (.cells #[.pointer (some ⟨g.p,0,none⟩),.slice A f.methods.length c] 189 (0,0))∧MesAt w0 A f.methods
 qp:g.q≠g.p
 qs:g.q≠g.sb
 old:w0.heap.size≤g.p∧w0.heap.size≤g.sb
 bl:Bl w0 w1
 cls:∃A c,g.c2=.slice A f.classes.length c∧ClsAt w0 A f.classes
 ret:g.c4=.int .i64 m.ret.kind∧g.c5=.int .i64 m.ret.cls
 room:g.c6=.int .i64 m.stack
 code:∃A c,g.c9=.slice A m.code.length c∧InsAt w0 A m.code
 hands:∃A c,g.c10=.slice A m.hands.length c∧HdsAt w0 A m.hands
 jn:∃jb jo jc,g.c14=.slice (some ⟨jb,jo,none⟩) f.classes.length jc∧jb≠g.p∧jb≠g.sb∧∀i,i<f.classes.length→∃rb ro rc,w1.cell? ⟨jb,jo+i,none⟩=some (.slice (some ⟨rb,ro,none⟩) f.classes.length rc)∧rb≠g.p∧rb≠g.sb∧∀j,j<f.classes.length→w1.cell? ⟨rb,ro+j,none⟩=some (.int .i64 (joinN f.classes i j:Nat))
 may:mayB f.classes=true
 me:smeB f.classes f.methods.length m=true
 mes:∀x∈f.methods,smeB f.classes f.methods.length x=true
theorem Cx.bl0 {X:Nat→Prop} {wx w0 w1:World} {g:Gf} {b0:Nat} {w:World} {cur:As} {at':Int} {st:List (Option As)} {wt:List Int} {f:Fi} {m:Me} (C:Cx w0 w1 g f m) (H:FX X wx w1 g b0 w cur at' st wt):Bl w0 w:=by
 obtain ⟨rv,vw,sp,H⟩:=H
 exact ⟨H.fz.os.trans C.bl.os,H.fz.tape.trans C.bl.tape,H.fz.output.trans C.bl.output,Nat.le_trans C.bl.size H.fz.size,fun b hb=>(H.fz.block b (Nat.lt_of_lt_of_le hb C.bl.size) (by have:=C.old.1;omega) (by have:=C.old.2;omega)).trans (C.bl.block b hb)⟩
theorem Cx.jnAt {X:Nat→Prop} {wx w0 w1:World} {g:Gf} {b0:Nat} {w:World} {cur:As} {at':Int} {st:List (Option As)} {wt:List Int} {f:Fi} {m:Me} (C:Cx w0 w1 g f m) (H:FX X wx w1 g b0 w cur at' st wt):JnAt w g.c14 f.classes:=by
 obtain ⟨jb,jo,jc,h1,h2,h3,h4⟩:=C.jn
 refine ⟨jb,jo,jc,h1,fun i hi=>?_⟩
 obtain ⟨rb,ro,rc,a1,a2,a3,a4⟩:=h4 i hi
 exact ⟨rb,ro,rc,H.oldc a1 h2 h3,fun j hj=>H.oldc (a4 j hj) a2 a3⟩
theorem Cx.q0 {X:Nat→Prop} {wx w0 w1:World} {g:Gf} {b0:Nat} {w:World} {cur:As} {at':Int} {st:List (Option As)} {wt:List Int} {f:Fi} {m:Me} (C:Cx w0 w1 g f m) (H:FX X wx w1 g b0 w cur at' st wt):w.cell? ⟨g.q,0,none⟩=some (.pointer (some ⟨g.p,0,none⟩)):=by
 obtain ⟨A,c,h,-⟩:=C.q
 exact c0_of (H.old h C.qp C.qs)
theorem FX.pc {X:Nat→Prop} {wx w1:World} {g:Gf} {b0:Nat} {w:World} {cur:As} {at':Int} {st:List (Option As)} {wt:List Int} (H:FX X wx w1 g b0 w cur at' st wt):w.cell? ⟨g.p,2,none⟩=some g.c2∧w.cell? ⟨g.p,4,none⟩=some g.c4∧w.cell? ⟨g.p,5,none⟩=some g.c5∧w.cell? ⟨g.p,6,none⟩=some g.c6∧w.cell? ⟨g.p,9,none⟩=some g.c9∧w.cell? ⟨g.p,10,none⟩=some g.c10∧w.cell? ⟨g.p,11,none⟩=some (.int .i64 at')∧w.cell? ⟨g.p,12,none⟩=some (.slice (some ⟨g.sb,0,none⟩) st.length g.sc)∧w.cell? ⟨g.p,14,none⟩=some g.c14:=by
 obtain ⟨rv,vw,sp,H⟩:=H
 refine ⟨?_,?_,?_,?_,?_,?_,?_,?_,?_⟩<;>(rw [cell_blk H.blk];rfl)
theorem ownPopT {w:World} {base:Nat} {e:TypeId} {gb cap:Nat} {l:List Ty} {v:Ty} (h:w.ownsRow base e 2 (.slice (some ⟨gb,0,none⟩) (l.length+1) cap) (l.length+1) (tyCs (l++[v]))) :
  w.ownsRow base e 2 (.slice (some ⟨gb,0,none⟩) l.length cap) l.length (tyCs l):=by
 obtain ⟨h1,h2⟩:=h
 rcases h2 with ⟨h0,_⟩|⟨g',cap',cur,hv,hg,hh,hn,hcap,hsz,htake⟩
 ·cases h0
 ·cases hv
  refine ⟨tyCs_length l,.inr ⟨gb,cap,cur,rfl,hg,hh,by omega,hcap,hsz,?_⟩⟩
  have h3:(cur.toList.take ((l.length+1)*2)).take (l.length*2)=(tyCs (l++[v])).take (l.length*2):=by rw [htake]
  rw [List.take_take,Nat.min_eq_left (by omega)] at h3
  rw [h3,←tyCs_length l]
  unfold tyCs
  rw [List.map_append,vaCells_append]
  simp
theorem rowCell {w:World} {base:Nat} {e:TypeId} {vs:Value} {l:List Ty} (h:w.ownsRow base e 2 vs l.length (tyCs l)):∃A cap,vs=.slice A l.length cap∧l.length≤cap∧cap≤maxLen∧(l.length=0∨∃gb,A=some ⟨gb,0,none⟩∧gb<w.heap.size∧(∃cu,w.heap[gb]?=some (.cells cu e (0,0))∧cu.size=cap*2)∧∀i,i<l.length→w.cell? ⟨gb,i*2,none⟩=some (.int .i64 (nth ty0 l i).kind)∧w.cell? ⟨gb,i*2+1,none⟩=some (.int .i64 (nth ty0 l i).cls)):=by
 rcases h.2 with ⟨h1,h0⟩|⟨gb,cap,cur,rfl,hg,hh,hn,hcap,hsz,htake⟩
 ·exact ⟨none,0,by rw [h1,h0],by omega,by unfold maxLen;omega,Or.inl h0⟩
 ·refine ⟨_,cap,rfl,hn,hcap,Or.inr ⟨gb,rfl,lt_some hh,⟨cur,hh,hsz⟩,fun i hi=>?_⟩⟩
  have hx:=va_cells (l.map tv) i (by rw [List.length_map];exact hi)
  have e2:nth va0 (l.map tv) i=tv (nth ty0 l i):=by
   rw [nth_get (l:=l.map tv) (by rw [List.length_map];exact hi),nth_get hi,List.getElem_map]
  have ht:cur.toList.take (l.length*2)=vaCells (l.map tv):=htake
  rw [e2,←ht,List.getElem?_take,List.getElem?_take,if_pos (by omega),if_pos (by omega)] at hx
  refine ⟨?_,?_⟩
  ·rw [cell_blk hh]
   have hx1:cur[i*2]?=some (.int .i64 (tv (nth ty0 l i)).kind):=by simpa using hx.1
   exact hx1
  ·rw [cell_blk hh]
   have hx1:cur[i*2+1]?=some (.int .i64 (tv (nth ty0 l i)).n):=by simpa using hx.2
   exact hx1
theorem FA.pop {X:Nat→Prop} {wx w1:World} {g:Gf} {b0:Nat} {w:World} {sl l:List Ty} {v:Ty} {at':Int} {st:List (Option As)} {wt:List Int} {rv:Nat→Value} {vw:Value} {sp:Nat→Option Nat} {gb cap:Nat} (H:FA X wx w1 g b0 w ⟨sl,l++[v]⟩ at' st wt rv vw sp) (h1:rv 1=.slice (some ⟨gb,0,none⟩) (l.length+1) cap) :
  FA X wx w1 g b0 (w.setCell ⟨g.p,1,none⟩ (.slice (some ⟨gb,0,none⟩) l.length cap)) ⟨sl,l⟩ at' st wt (fun r=>if r=0 then rv 0 else if r=1 then .slice (some ⟨gb,0,none⟩) l.length cap else rv r) vw sp:=by
 have hg:=grown_set (w:=w) g.p 1 (.slice (some ⟨gb,0,none⟩) l.length cap)
 have hr1:=H.row1
 rw [h1] at hr1
 have hll:(l++[v]).length=l.length+1:=by simp
 dsimp only at hr1
 rw [hll] at hr1
 refine H.newcur hg.os hg.tape hg.output hg.size (fun b hb hbp _=>hg.block b hb (fun e=>hbp (Option.some.inj e))) ?_ ?_ ?_ (fun b e=>Or.inl e) (fun b e=>Or.inr (Or.inl ?_)) (fun b e=>?_)
 ·rw [block_set H.blk];rfl
 ·exact H.row0.kept hg (Or.inr (own_far H.row0 H.blk (by decide)))
 ·exact (ownPopT hr1).kept hg (Or.inr (fun e=>own_far H.row1 H.blk (by decide) (by rw [h1];exact e)))
 ·rw [h1];exact e
 ·intro e2;exact H.sep 0 1 b (by omega) e (by rw [h1];exact e2)
section
variable {X:Nat→Prop} {wx w0 w1:World} {g:Gf} {b0:Nat} {w:World} {cur:As} {at':Int} {st:List (Option As)} {wt:List Int} {f:Fi} {m:Me}
theorem ftake_no (C:Cx w0 w1 g f m) (H:FX X wx w1 g b0 w cur at' st wt) (hs:cur.stk=[]) :
  Calls Tryz.prog 210 #[.pointer (some ⟨g.q,0,none⟩)] w fun e w'=>e=upE∧FE X wx w1 g w':=by
 have HH:Hid (FX X wx w1 g b0 w cur at' st wt):=H
 have q0:=C.q0 H
 have hq:=cell_lt q0
 obtain ⟨rv,vw,sp,H⟩:=H
 obtain ⟨A,cap,h1,h2,h3,-⟩:=rowCell H.row1
 have h1:rv 1=.slice A 0 cap:=by rw [h1,hs];rfl
 have p1:w.cell? ⟨g.p,1,none⟩=some (.slice A 0 cap):=by rw [cell_blk H.blk,←h1];rfl
 have hp:=cell_lt p1
 clear H h1 h2 h3 hs C
 go_enter Tryz.func210,Tryz.ntmps210
 go_wp2_with (go_at_call 208;refine (up_any _).mono ?_;rintro e w2 ⟨rfl,hw⟩;rw [hw];clear hw w2)
 exact ⟨rfl,rfl,(HH.out.bl ((Bl.refl w).alloc _)).fe⟩
theorem ftake_yes (C:Cx w0 w1 g f m) (l:List Ty) (v:Ty) (H:FX X wx w1 g b0 w ⟨cur.slots,l++[v]⟩ at' st wt) (hl:l.length≤1000) :
  Calls Tryz.prog 210 #[.pointer (some ⟨g.q,0,none⟩)] w fun e w'=>e=.returned (fvV v)∧FX X wx w1 g b0 w' ⟨cur.slots,l⟩ at' st wt:=by
 have HH:Hid (FX X wx w1 g b0 w ⟨cur.slots,l++[v]⟩ at' st wt):=H
 have q0:=C.q0 H
 have hq:=cell_lt q0
 obtain ⟨rv,vw,sp,H⟩:=H
 obtain ⟨A,cap,h1,h2,h3,h4⟩:=rowCell H.row1
 have hll:(l++[v]).length=l.length+1:=by simp
 dsimp only at h1 h2 h4
 rw [hll] at h1 h2 h4
 rcases h4 with h4|⟨gb,rfl,hgb,hcu,hc⟩
 ·omega
 have hc0:=(hc l.length (by omega)).1
 have hc1:=(hc l.length (by omega)).2
 rw [nth_one] at hc0 hc1
 have p1:w.cell? ⟨g.p,1,none⟩=some (.slice (some ⟨gb,0,none⟩) ((l.length+1:Nat)) cap):=by rw [cell_blk H.blk,←h1];rfl
 have hp:=cell_lt p1
 have pf:=free_blk H.blk
 have HF:Hid (FA X wx w1 g b0 w ⟨cur.slots,l++[v]⟩ at' st wt rv vw sp):=H
 have HV:Hid (rv 1=.slice (some ⟨gb,0,none⟩) (l.length+1) cap):=h1
 have hn:((l.length+1:Nat):Int)-1=(l.length:Int):=by omega
 have hlt:((l.length:Nat):Int)<((l.length+1:Nat):Int):=by omega
 have hl0:¬((l.length:Nat):Int)<0:=by omega
 clear H h1 hc hcu C hll
 go_enter Tryz.func210,Tryz.ntmps210
 go_wp2
 go_region
 go_wp2
 refine bodyPost_ret (results_cell_row rfl _ _ w.heap.size _ _ _ _ rfl (blk_in1 (by simp)) Tryz.underlying233 rfl info_fv) rfl ?_
 exact ⟨rfl,_,_,_,(HF.out.pop HV.out).bl ((((Bl.refl _).alloc _).alloc _).drew)⟩
end
end
section
section
variable (X:Nat→Prop) (wx w1:World) (g:Gf) (b0:Nat) (at':Int) (st:List (Option As)) (wt:List Int)
def TkQ (r:Option (Ty×As)) (e:Ending) (w':World):Prop:=match r with
 | none=>e=upE∧FE X wx w1 g w'
 | some p=>e=.returned (fvV p.1)∧FX X wx w1 g b0 w' p.2 at' st wt
def AsQ (r:Option As) (e:Ending) (w':World):Prop:=match r with
 | none=>e=upE∧FE X wx w1 g w'
 | some s=>e=.returned (.tuple #[])∧FX X wx w1 g b0 w' s at' st wt
end
section
variable {X:Nat→Prop} {wx w0 w1:World} {g:Gf} {b0:Nat} {w:World} {cur:As} {at':Int} {st:List (Option As)} {wt:List Int} {f:Fi} {m:Me}
theorem ftake_any (C:Cx w0 w1 g f m) (H:FX X wx w1 g b0 w cur at' st wt) (hl:cur.stk.length≤1000) :
  Calls Tryz.prog 210 #[.pointer (some ⟨g.q,0,none⟩)] w fun e w'=>TkQ X wx w1 g b0 at' st wt (takeT cur) e w':=by
 by_cases h0:cur.stk=[]
 ·have e:takeT cur=none:=by unfold takeT;rw [h0];rfl
  rw [e];exact ftake_no C H h0
 ·have hne:cur.stk.length≠0:=fun e=>h0 (List.length_eq_zero_iff.1 e)
  have e:takeT cur=some (nth ty0 cur.stk (cur.stk.length-1),⟨cur.slots,cur.stk.take (cur.stk.length-1)⟩):=by unfold takeT;rw [if_neg hne]
  have hs:=(takeT_app e).1
  dsimp only at hs
  rw [e]
  refine ftake_yes C (cur:=cur) (cur.stk.take (cur.stk.length-1)) (nth ty0 cur.stk (cur.stk.length-1)) ?_ (by rw [List.length_take];omega)
  rw [←hs];exact H
theorem ftakeK_any (C:Cx w0 w1 g f m) (k:Int) (H:FX X wx w1 g b0 w cur at' st wt) (hl:cur.stk.length≤1000) :
  Calls Tryz.prog 173 #[.pointer (some ⟨g.q,0,none⟩),.int .i64 k] w fun e w'=>TkQ X wx w1 g b0 at' st wt (takeK k cur) e w':=by
 have HB:Hid (Bl w (w.alloc fvZ)):=(Bl.refl w).alloc _
 have HW:Hid (FX (Xf X w.heap.size (w.alloc fvZ).heap.size) (w.alloc fvZ) w1 g b0 (w.alloc fvZ) cur at' st wt):=H.wide HB.out
 have HX:=hid (ftake_any C HW.out hl)
 have HH:Hid (FX X wx w1 g b0 w cur at' st wt):=H
 have HZ:Hid ((w.alloc fvZ).heap[w.heap.size]?=some (.cells #[.int .i64 0,.int .i64 0] 233 (0,0))):=mblk rfl
 clear H C hl
 unfold takeK
 cases ht:takeT cur with
 | none =>
  rw [ht] at HX
  have HX:Hid (Calls Tryz.prog 210 #[.pointer (some ⟨g.q,0,none⟩)] (w.alloc fvZ) fun e w'=>e=upE∧FE (Xf X w.heap.size (w.alloc fvZ).heap.size) (w.alloc fvZ) w1 g w'):=HX
  show Calls _ _ _ _ fun e w'=>e=upE∧FE X wx w1 g w'
  go_enter Tryz.func173,Tryz.ntmps173
  go_wp2_with (go_at_call 210;refine HX.out.mono ?_;rintro e w2 ⟨rfl,f2⟩)
  exact ⟨rfl,rfl,FE.back HH.out HB.out f2⟩
 | some p =>
  obtain ⟨v,s⟩:=p
  rw [ht] at HX
  have HX:Hid (Calls Tryz.prog 210 #[.pointer (some ⟨g.q,0,none⟩)] (w.alloc fvZ) fun e w'=>e=.returned (fvV v)∧FX (Xf X w.heap.size (w.alloc fvZ).heap.size) (w.alloc fvZ) w1 g b0 w' s at' st wt):=HX
  show Calls _ _ _ _ fun e w'=>TkQ X wx w1 g b0 at' st wt (if v.kind=k then some (v,s) else none) e w'
  by_cases hk:v.kind=k
  ·have HK:Hid (v.kind=k):=hk
   rw [if_pos hk]
   clear hk
   show Calls _ _ _ _ fun e w'=>e=.returned (fvV v)∧FX X wx w1 g b0 w' s at' st wt
   go_enter Tryz.func173,Tryz.ntmps173
   go_wp2_with (first
    | (go_at_call 210;refine HX.out.mono ?_;rintro e w2 ⟨rfl,f2⟩)
    | (go_at_call 211;refine (fmust_yes _ _ _ HK.out).mono ?_;rintro e w3 ⟨rfl,b3⟩;have F3:Hid (FX (Xf X w.heap.size (w.alloc fvZ).heap.size) (w.alloc fvZ) w1 g b0 w3 s at' st wt):=FX.bl f2 b3;have hz:=F3.out.box (Nat.le_refl _) (by simp) HZ.out;have r0:=c0_of hz;have r1:=c1_of hz;have rf:=free_blk hz;have Z3:Hid (_):=hz;clear hz b3 f2))
   refine bodyPost_ret (results_cell_row rfl _ _ w.heap.size _ _ _ _ rfl (block_set (block_set Z3.out _) _) Tryz.underlying233 rfl info_fv) rfl ?_
   exact ⟨rfl,HH.out.backY2 HB.out F3.out (Nat.le_refl _) (by simp)⟩
  ·have HK:Hid (v.kind≠k):=hk
   rw [if_neg hk]
   clear hk
   show Calls _ _ _ _ fun e w'=>e=upE∧FE X wx w1 g w'
   go_enter Tryz.func173,Tryz.ntmps173
   go_wp2_with (first
    | (go_at_call 210;refine HX.out.mono ?_;rintro e w2 ⟨rfl,f2⟩)
    | (go_at_call 211;refine (fmust_no _ _ _ HK.out).mono ?_;rintro e w3 ⟨rfl,b3⟩))
   exact ⟨rfl,rfl,FE.back HH.out HB.out (FX.bl f2 b3).fe⟩
end
end
theorem takeH {P:Program} {md:Region.Mode} {ops:Array Oper} {Q:Exit→Act→World→Prop} {S:World→Prop} {i:Nat} {oi:Oper} {d:Option Tmp} {v:Value} {fuel:Nat} {listed:Array Bool} {a:Act} {w:World} (hi:ops[i]?=some oi) (hd:oi.dst=d)
  (hs:Region.noSelect ops=true) (hf:Region.free md ops listed i=true) (hr:(Region.ready md ops listed).contains i=true)
  (hQ:∀c a w,Q (.panic c) (a.put oi.dst v) w→Q (.panic c) a w) (hw:Region.wanted oi (yielded ops a.tmps)=true) (hy:∀w,S w→(execOp a.eval oi).run P w=.ok (.value v) w) (hS:S w)
  (h:wpAnyH P md ops Q S fuel (listed.setIfInBounds i true) (a.put d v) w):wpAnyH P md ops Q S (fuel+1) listed a w :=
 wpAnyH_take hi hs hf hr hQ (Or.inl ⟨hw,hy⟩) hS (hd▸h)
def qOp:Op→Bool
 | .call c=>match c.callee with | .builtin .len=>true|_=>false
 | .move _ | .assign _ | .fieldAddr .. | .nilCheck _ | .load .. | .binOp .. | .unOp .. | .indexAddr .. | .build .. | .slice .. | .index .. | .extract .. | .convert .. | .field .. | .pick .. | .lookup ..=>true
 | _=>false
def nxA (md:Region.Mode) (l:List Bool):List Edge→Bool
 | []=>true
 | e::es=>(!Region.binds md e||l.getD e.on false)&&nxA md l es
def nxL (md:Region.Mode) (l:List Bool) (k:Nat):List Oper→List Bool→Option (Nat×Oper)
 | o::os,b::bs=>match !b&&(qOp o.op&&nxA md l o.after.toList) with
  | true=>some (k,o)
  | false=>nxL md l (k+1) os bs
 | _,_=>none
theorem nx_at {md:Region.Mode} {l:List Bool} {i:Nat} {o:Oper}:∀(os:List Oper) (bs:List Bool) (k:Nat),nxL md l k os bs=some (i,o)→∃q,i=k+q∧os[q]?=some o
 | [],bs,k,h=>by simp [nxL] at h
 | x::os,[],k,h=>by simp [nxL] at h
 | x::os,b::bs,k,h=>by
  unfold nxL at h
  split at h
  ·have h:=Option.some.inj h
   exact ⟨0,by have:=congrArg Prod.fst h;simp at this;omega,by have:=congrArg Prod.snd h;simp at this;simp [this]⟩
  ·obtain ⟨q,h1,h2⟩:=nx_at os bs (k+1) h
   exact ⟨q+1,by omega,by simpa using h2⟩
theorem tn {P:Program} {md:Region.Mode} {ops:Array Oper} {Q:Exit→Act→World→Prop} {S:World→Prop} {i:Nat} {oi:Oper} {v:Value} {fuel:Nat} {listed:Array Bool} {a:Act} {w:World} (hn:nxL md listed.toList 0 ops.toList listed.toList=some (i,oi))
  (hr:(Region.noSelect ops&&(Region.free md ops listed i&&((Region.ready md ops listed).contains i&&Region.wanted oi (yielded ops a.tmps))))=true)
  (hQ:∀c a w,Q (.panic c) (a.put oi.dst v) w→Q (.panic c) a w) (hy:∀w,S w→(execOp a.eval oi).run P w=.ok (.value v) w) (hS:S w)
  (h:wpAnyH P md ops Q S fuel (listed.setIfInBounds i true) (a.put oi.dst v) w):wpAnyH P md ops Q S (fuel+1) listed a w:=by
 rw [Bool.and_eq_true,Bool.and_eq_true,Bool.and_eq_true] at hr
 obtain ⟨q,h1,h2⟩:=nx_at _ _ _ hn
 have hi:ops[i]?=some oi:=by rw [h1,Nat.zero_add,←Array.getElem?_toList];exact h2
 exact takeH hi rfl hr.1 hr.2.1 hr.2.2.1 hQ hr.2.2.2 hy hS h
theorem tk {P:Program} {md:Region.Mode} {ops:Array Oper} {Q:Exit→Act→World→Prop} {S:World→Prop} {i:Nat} {oi:Oper} {d:Option Tmp} {v:Value} {fuel:Nat} {listed:Array Bool} {a:Act} {w:World} (hi:ops[i]?=some oi) (hd:oi.dst=d)
  (hr:(Region.noSelect ops&&(Region.free md ops listed i&&(Region.ready md ops listed).contains i))=true)
  (hQ:∀c a w,Q (.panic c) (a.put oi.dst v) w→Q (.panic c) a w) (hw:Region.wanted oi (yielded ops a.tmps)=true) (hy:∀w,S w→(execOp a.eval oi).run P w=.ok (.value v) w) (hS:S w)
  (h:wpAnyH P md ops Q S fuel (listed.setIfInBounds i true) (a.put d v) w):wpAnyH P md ops Q S (fuel+1) listed a w:=by
 rw [Bool.and_eq_true,Bool.and_eq_true] at hr
 exact takeH hi hd hr.1 hr.2.1 hr.2.2 hQ hw hy hS h
theorem rd1 {P:Program} {md:Region.Mode} {ops:Array Oper} {Q:Exit→Act→World→Prop} {S:World→Prop} {fuel:Nat} {listed:Array Bool} {a:Act} {w:World} {i:Nat} {o:Oper} (hr:Region.ready md ops listed=[i]) (ho:ops[i]?=some o)
  (h:∀K':Act→World→Prop,Shut (∀a w,S w→(S w→wpAnyH P md ops Q S fuel (listed.setIfInBounds i true) a w)→K' a w)→if Region.wanted o (yielded ops a.tmps)=true then Oper.wp P o a w K' Q else K' (a.put o.dst undef) w):wpAnyH P md ops Q S (fuel+1) listed a w :=
 wpAnyH_ready hr (by simp) (AllReadyH.cons ho h AllReadyH.nil)
theorem aS (a:Act) (t:Tmp) (v:Value):a.put (some t) v={ a with tmps:=a.tmps.setIfInBounds t v }:=rfl
theorem aN (a:Act) (v:Value):a.put none v=a:=rfl
theorem aT {α:Type} (l:List α) (i:Nat) (x:α):l.toArray.setIfInBounds i x=(l.set i x).toArray:=List.setIfInBounds_toArray ..
theorem a0 {α:Type} (x y:α) (l:List α):(x::l).set 0 y=y::l:=rfl
theorem a1 {α:Type} (x y:α) (l:List α) (n:Nat):(x::l).set (n+1) y=x::l.set n y:=rfl
theorem aZ:(∀(a:Act) (t:Tmp) (v:Value),a.put (some t) v={ a with tmps:=a.tmps.setIfInBounds t v })∧(∀(a:Act) (v:Value),a.put none v=a)∧(∀{α:Type} (l:List α) (i:Nat) (x:α),l.toArray.setIfInBounds i x=(l.set i x).toArray)∧(∀{α:Type} (x y:α) (l:List α),(x::l).set 0 y=y::l)∧(∀{α:Type} (x y:α) (l:List α) (n:Nat),(x::l).set (n+1) y=x::l.set n y) :=
 ⟨aS,aN,aT,a0,a1⟩
section
section
variable {X:Nat→Prop} {wx w0 w1:World} {g:Gf} {b0:Nat} {w:World} {cur:As} {at':Int} {st:List (Option As)} {wt:List Int} {f:Fi} {m:Me}
theorem Hid.elimT {X:Nat→Prop} {wx w1:World} {g:Gf} {b0:Nat} {at':Int} {st:List (Option As)} {wt:List Int} {r:Option (Ty×As)} {e:Ending} {w':World} {G:Prop} (h:TkQ X wx w1 g b0 at' st wt r e w') (hn:r=none→e=upE→FE X wx w1 g w'→G) (hs:∀p,r=some p→e=.returned (fvV p.1)→FX X wx w1 g b0 w' p.2 at' st wt→G):G:=by
 cases r with
 | none=>exact hn rfl h.1 h.2
 | some p=>exact hs p rfl h.1 h.2
theorem ftakeY_any (C:Cx w0 w1 g f m) (t:Ty) (H:FX X wx w1 g b0 w cur at' st wt) (hl:cur.stk.length≤1000) (hr:∀v∈cur.stk,refOk f.classes.length v) (ht:t.kind=3→0≤t.cls∧t.cls<f.classes.length) :
  Calls Tryz.prog 212 #[.pointer (some ⟨g.q,0,none⟩),.agg #[.int .i64 t.kind,.int .i64 t.cls]] w fun e w'=>AsQ X wx w1 g b0 at' st wt (takeY f.classes t cur) e w':=by
 have HB:Hid (Bl w (w.alloc (ftyO t))):=(Bl.refl w).alloc _
 have HW:Hid (FX (Xf X w.heap.size (w.alloc (ftyO t)).heap.size) (w.alloc (ftyO t)) w1 g b0 (w.alloc (ftyO t)).drew cur at' st wt):=(H.wide HB.out).bl (Bl.refl _).drew
 have HX:=hid (ftake_any C HW.out hl)
 have HH:Hid (FX X wx w1 g b0 w cur at' st wt):=H
 have HC:Hid (Cx w0 w1 g f m):=C
 have HR:Hid (∀v∈cur.stk,refOk f.classes.length v):=hr
 have HT:Hid (t.kind=3→0≤t.cls∧t.cls<f.classes.length):=ht
 have HZ:Hid ((w.alloc (ftyO t)).heap[w.heap.size]?=some (.cells #[.int .i64 t.kind,.int .i64 t.cls] 45 (0,0))):=mblk rfl
 have q0:=C.q0 HW.out
 have z0:=c0_of HZ.out
 have z1:=c1_of HZ.out
 clear H C hl hr ht
 go_enter Tryz.func212,Tryz.ntmps212
 go_wp2
 refine wp_region_held_drew (S:=fun w'=>w'.cell? ⟨g.q,0,none⟩=some (.pointer (some ⟨g.p,0,none⟩))∧w'.cell? ⟨w.heap.size,0,none⟩=some (.int .i64 t.kind)∧w'.cell? ⟨w.heap.size,1,none⟩=some (.int .i64 t.cls)) (by kernel_rfl) ?_ (fun hHeld0=>?_)
 ·exact ⟨q0,z0,z1⟩
 iterate 6 (refine tn rfl (by kernel_rfl) (fun _ _ _ h=>h) (by intro _ h;go_split_ands;go_simp<;>with_reducible rfl) hHeld0 ?_;try simp only [aZ])
 refine rd1 (i:=5) (by kernel_rfl) rfl fun K hK=>?_
 go_simp
 go_at_call 210
 refine HX.out.mono ?_
 intro e w2 hq
 refine Hid.elimT hq ?_ ?_
 ·rintro h0 rfl f2
  refine ⟨rfl,?_⟩
  have e1:takeY f.classes t cur=none:=by unfold takeY;rw [h0];rfl
  rw [e1]
  exact ⟨rfl,FE.back HH.out HB.out f2⟩
 ·rintro ⟨v,s⟩ h0 rfl f2
  have F2:=hid f2
  have Z2:=hid (f2.box (Nat.le_refl _) (by simp) HZ.out)
  clear f2 hq
  have q2:=HC.out.q0 F2.out
  refine hK.out _ _ ⟨q2,c0_of Z2.out,c1_of Z2.out⟩ (fun hHeld1=>?_)
  try simp only [aZ]
  have J2:=hid (mustfit_any f.classes g.p g.c14 v t w2 F2.out.pc.2.2.2.2.2.2.2.2 (HC.out.jnAt F2.out) (HR.out v (by rw [(takeT_app h0).1];simp)) HT.out)
  have E1:Hid (takeY f.classes t cur=if fitB f.classes v t=true then some s else none):=by unfold takeY;rw [h0];rfl
  refine rd1 (i:=7) (by kernel_rfl) rfl fun K hK=>?_
  go_simp
  go_at_call 239
  refine J2.out.mono ?_
  rintro e w3 ⟨he,b3⟩
  have B3:=hid b3
  clear b3
  by_cases hf:fitB f.classes v t=true
  ·rw [if_pos hf] at E1
   unfold fitE at he
   rw [if_pos hf] at he
   subst he
   clear hf
   have F3:=hid (FX.bl F2.out B3.out)
   have Z3:=hid (bl_blk B3.out Z2.out)
   refine hK.out _ _ ⟨HC.out.q0 F3.out,c0_of Z3.out,c1_of Z3.out⟩ (fun hHeld2=>?_)
   try simp only [aZ]
   refine wpAnyH_done (by kernel_rfl) ?_ _
   go_end0
   rw [E1.out]
   exact ⟨rfl,FX.back HH.out HB.out F3.out⟩
  ·rw [if_neg hf] at E1
   unfold fitE at he
   rw [if_neg hf] at he
   subst he
   refine ⟨rfl,?_⟩
   rw [E1.out]
   exact ⟨rfl,FE.back HH.out HB.out (FX.bl F2.out B3.out).fe⟩
end
end
theorem tyCs_set (l:List Ty) (i:Nat) (v:Ty) (h:i<l.length):tyCs (l.set i v)=((tyCs l).set (i*2) (.int .i64 v.kind)).set (i*2+1) (.int .i64 v.cls):=by
 unfold tyCs
 rw [List.map_set,vaCells_set _ _ _ (by rw [List.length_map];exact h)]
 rfl
theorem rowSet {w:World} {base:Nat} {e:TypeId} {gb cap:Nat} {l:List Ty} (h:w.ownsRow base e 2 (.slice (some ⟨gb,0,none⟩) l.length cap) l.length (tyCs l)) (i:Nat) (v:Ty) (hi:i<l.length) :
  ((w.setCell ⟨gb,i*2,none⟩ (.int .i64 v.kind)).setCell ⟨gb,i*2+1,none⟩ (.int .i64 v.cls)).ownsRow base e 2 (.slice (some ⟨gb,0,none⟩) (l.set i v).length cap) (l.set i v).length (tyCs (l.set i v)):=by
 refine ⟨tyCs_length _,?_⟩
 rcases h.2 with ⟨h0,-⟩|⟨g',cap',cur,hv,hg,hh,hn,hcap,hsz,htake⟩
 ·cases h0
 ·cases hv
  refine Or.inr ⟨gb,cap,(cur.setIfInBounds (i*2) (.int .i64 v.kind)).setIfInBounds (i*2+1) (.int .i64 v.cls),by rw [List.length_set],hg,block_set (block_set hh _) _,by rw [List.length_set];exact hn,hcap,by simp [hsz],?_⟩
  rw [tyCs_set l i v hi,←htake,List.length_set]
  simp only [Array.toList_setIfInBounds]
  refine List.ext_getElem? fun q=>?_
  rw [List.getElem?_take]
  by_cases hq:q<l.length*2
  ·rw [if_pos hq]
   by_cases e1:i*2+1=q
   ·subst e1
    rw [List.getElem?_set_self (by simp;omega),List.getElem?_set_self (by simp;omega)]
   ·rw [List.getElem?_set_ne e1,List.getElem?_set_ne e1]
    by_cases e2:i*2=q
    ·subst e2
     rw [List.getElem?_set_self (by simp;omega),List.getElem?_set_self (by simp;omega)]
    ·rw [List.getElem?_set_ne e2,List.getElem?_set_ne e2,List.getElem?_take,if_pos hq]
  ·rw [if_neg hq,List.getElem?_eq_none (by simp;omega)]
theorem grown2 (w:World) (gb i j:Nat) (u v:Value):w.grownBy ((w.setCell ⟨gb,i,none⟩ u).setCell ⟨gb,j,none⟩ v) (some gb):=grown_trans (grown_set gb i u) (grown_set gb j v)
structure Sl (w:World) (b gb cap base:Nat) (l:List Ty):Prop where
 c:w.cell? ⟨b,0,none⟩=some (.slice (some ⟨gb,0,none⟩) l.length cap)
 ne:b≠gb
 row:w.ownsRow base 233 2 (.slice (some ⟨gb,0,none⟩) l.length cap) l.length (tyCs l)
theorem Sl.cells {w:World} {b gb cap base:Nat} {l:List Ty} (H:Sl w b gb cap base l) {i:Nat} (hi:i<l.length):w.cell? ⟨gb,i*2,none⟩=some (.int .i64 (nth ty0 l i).kind)∧w.cell? ⟨gb,i*2+1,none⟩=some (.int .i64 (nth ty0 l i).cls)∧(∀k,w.frozen? ⟨gb,k,none⟩=false):=by
 obtain ⟨A,c,h1,h2,h3,h4⟩:=rowCell H.row
 have hA:A=some ⟨gb,0,none⟩:=by injection h1 with a1 a2 a3;exact a1.symm
 rcases h4 with h4|⟨gb',h5,h6,⟨cu,h7,-⟩,h8⟩
 ·omega
 ·rw [hA] at h5;cases h5
  exact ⟨(h8 i hi).1,(h8 i hi).2,fun k=>free_blk h7 k⟩
theorem Sl.set {w:World} {b gb cap base:Nat} {l:List Ty} (H:Sl w b gb cap base l) (i:Nat) (v:Ty) (hi:i<l.length):Sl ((w.setCell ⟨gb,i*2,none⟩ (.int .i64 v.kind)).setCell ⟨gb,i*2+1,none⟩ (.int .i64 v.cls)) b gb cap base (l.set i v):=by
 have hg:=grown2 w gb (i*2) (i*2+1) (.int .i64 v.kind) (.int .i64 v.cls)
 refine ⟨?_,H.ne,rowSet H.row i v hi⟩
 rw [List.length_set]
 exact hg.cell H.c (fun e=>H.ne (Option.some.inj e))
theorem Sl.bl {w w':World} {b gb cap base:Nat} {l:List Ty} (H:Sl w b gb cap base l) (h:Bl w w'):Sl w' b gb cap base l:=⟨h.cell H.c,H.ne,rowBl H.row h⟩
theorem flose_any (b gb cap base:Nat) (l:List Ty) (a:Nat) (w:World) (H:Sl w b gb cap base l) (ha:a<l.length) (hl:l.length≤1000) (T2:(nth ty0 l a).kind=2→a+1<l.length) (T4:(nth ty0 l a).kind=4→1≤a) :
  Calls Tryz.prog 235 #[.pointer (some ⟨b,0,none⟩),.int .i64 (a:Int)] w fun e w'=>e=.returned (.tuple #[])∧Sl w' b gb cap base (losT l a)∧w.grownBy w' (some gb):=by
 have HH:=hid H
 obtain ⟨c0,-,cf⟩:=H.cells ha
 have hb:=cell_lt H.c
 have hgb:=cell_lt c0
 have hc:=H.c
 have ha0:(0:Int)≤(a:Int):=by omega
 have ha1:(a:Int)<(l.length:Int):=by omega
 clear H
 by_cases h2:(nth ty0 l a).kind=2
 ·have h1':=T2 h2
  obtain ⟨d0,d1,-⟩:=HH.out.cells h1'
  have e1:Hid (losT l a=l.set (a+1) ty0):=by show losT l a=_;unfold losT;rw [if_pos h2]
  have ha2:(a:Int)+1<(l.length:Int):=by omega
  have hz:((nth ty0 l a).kind==2)=true:=by simpa using h2
  have hi:((a+1:Nat):Int)=(a:Int)+1:=by omega
  have hw:IntKind.i64.wrap ((a:Int)+1)=(a:Int)+1:=by rw [IntKind.wrap_i64];omega
  have H1:=hid h1'
  clear T2 T4 h2 h1'
  generalize (nth ty0 l a).kind=ka at *
  go_enter Tryz.func235,Tryz.ntmps235
  go_wp2
  go_end0
  exact ⟨rfl,by rw [e1.out];exact HH.out.set (a+1) ty0 H1.out,grown2 _ _ _ _ _ _⟩
 ·have hz:((nth ty0 l a).kind==2)=false:=by simpa using h2
  by_cases h4:(nth ty0 l a).kind=4
  ·have h1':=T4 h4
   obtain ⟨c,rfl⟩:∃c,a=c+1:=⟨a-1,by omega⟩
   obtain ⟨d0,d1,-⟩:=HH.out.cells (i:=c) (by omega)
   have e1:Hid (losT l (c+1)=l.set c ty0):=by show losT l (c+1)=_;unfold losT;rw [if_neg h2,if_pos h4];rfl
   have hz4:((nth ty0 l (c+1)).kind==4)=true:=by simpa using h4
   have ha2:(c:Int)<(l.length:Int):=by omega
   have hc0:(0:Int)≤(c:Int):=by omega
   have hi:((c+1:Nat):Int)-1=(c:Int):=by omega
   have hw:IntKind.i64.wrap (c:Int)=(c:Int):=by rw [IntKind.wrap_i64];omega
   have H1:=hid (show c<l.length by omega)
   clear T2 T4 h2 h4 h1'
   generalize (nth ty0 l (c+1)).kind=ka at *
   go_enter Tryz.func235,Tryz.ntmps235
   go_wp2
   go_end0
   exact ⟨rfl,by rw [e1.out];exact HH.out.set c ty0 H1.out,grown2 _ _ _ _ _ _⟩
  ·have hz4:((nth ty0 l a).kind==4)=false:=by simpa using h4
   have e1:Hid (losT l a=l):=by show losT l a=_;unfold losT;rw [if_neg h2,if_neg h4]
   clear T2 T4 h2 h4
   generalize (nth ty0 l a).kind=ka at *
   go_enter Tryz.func235,Tryz.ntmps235
   go_wp2
   go_end0
   exact ⟨rfl,by rw [e1.out];exact HH.out,⟨rfl,rfl,rfl,Nat.le_refl _,fun _ _ _=>rfl⟩⟩
theorem losT_T2 (l:List Ty) (a:Nat) (ha:a+1<l.length) (P:PairT l):(nth ty0 (losT l a) (a+1)).kind=2→a+1+1<(losT l a).length:=fun h=>by
 rw [losT_length]
 rcases losT_nth2 l a (a+1) (by omega) P (by omega) with e|e
 ·rw [e] at h;exact absurd h (by decide)
 ·rw [e] at h;exact (P.1 (a+1) ha h).1
theorem grown_bl' {w w' w2:World} {row:Option Nat} (h:Bl w w') (k:w'.grownBy w2 row):w.grownBy w2 row:=⟨k.os.trans h.os,k.tape.trans h.tape,k.output.trans h.output,Nat.le_trans h.size k.size,fun i hi hn=>(k.block i (Nat.lt_of_lt_of_le hi h.size) hn).trans (h.block i hi)⟩
theorem grown_bl2 {w w' w2:World} {row:Option Nat} (h:w.grownBy w' row) (k:Bl w' w2):w.grownBy w2 row:=⟨k.os.trans h.os,k.tape.trans h.tape,k.output.trans h.output,Nat.le_trans h.size k.size,fun i hi hn=>(k.block i (Nat.lt_of_lt_of_le hi h.size)).trans (h.block i hi hn)⟩
theorem fwrite_any (b gb cap base:Nat) (l:List Ty) (a:Nat) (v:Ty) (w:World) (H:Sl w b gb cap base l) (ha:a<l.length) (hl:l.length≤1000) (T:PairT l) (hv:v.kind=2→a+1<l.length) :
  Calls Tryz.prog 202 #[.pointer (some ⟨b,0,none⟩),.int .i64 (a:Int),fvV v] w fun e w'=>e=.returned (.tuple #[])∧Sl w' b gb cap base (wrT l a v)∧w.grownBy w' (some gb):=by
 have HB:Hid (Bl w (w.alloc (fvO v))):=(Bl.refl w).alloc _
 have HL:=hid (mblk (w:=w) (cs:=#[.int .i64 v.kind,.int .i64 v.cls]) (t:=233) rfl)
 have hgbw:gb<w.heap.size:=cell_lt (H.cells ha).1
 have HG:=hid hgbw
 have HS:=hid (flose_any b gb cap base l a _ (H.bl HB.out) ha hl (fun h=>(T.1 a ha h).1) (fun h=>(T.2 a ha h).1))
 have ha0:(0:Int)≤(a:Int):=by omega
 have ha1:(a:Int)<(l.length:Int):=by omega
 have hbw:=cell_lt H.c
 have ll:=losT_length l a
 by_cases h2:v.kind=2
 ·have hv1:=hv h2
  have hz:(v.kind==2)=true:=by simpa using h2
  have HT:=hid (losT_T2 l a hv1 T)
  have E1:Hid (wrT l a v=((losT (losT l a) (a+1)).set (a+1) ⟨4,0⟩).set a v):=by show wrT l a v=_;unfold wrT;rw [if_pos h2]
  have hw:IntKind.i64.wrap ((a:Int)+1)=(a:Int)+1:=by rw [IntKind.wrap_i64];omega
  have hi:((a+1:Nat):Int)=(a:Int)+1:=by omega
  have ha2:(a:Int)+1<(l.length:Int):=by omega
  have H1:=hid hv1
  have HA:=hid ha
  have HLL:=hid hl
  have L2:Hid ((losT (losT l a) (a+1)).length=l.length):=by show (losT (losT l a) (a+1)).length=_;rw [losT_length,ll]
  have L1:=hid ll
  clear H h2 T hv hv1 ha hl ll
  go_enter Tryz.func202,Tryz.ntmps202
  go_wp2_with (first
   | (go_at_call_of 235 (Value.int IntKind.i64 (a:Int));refine HS.out.mono ?_;rintro e w2 ⟨rfl,s2,g2⟩;have S2:=hid s2;have G2:=hid (grown_bl' HB.out g2);have Z2:=hid ((g2.block w.heap.size (by simp) (by intro e;have:=Option.some.inj e;omega)).trans HL.out);have z0:=c0_of Z2.out;have z1:=c1_of Z2.out;clear s2 g2)
   | (go_at_call 235;rw [←hi];refine (flose_any b gb cap base (losT l a) (a+1) _ S2.out (by rw [L1.out];exact H1.out) (by rw [L1.out];exact HLL.out) HT.out (fun _=>by omega)).mono ?_;rintro e w3 ⟨rfl,s3,g3⟩;have S3:=hid s3;have G3:=hid (grown_trans G2.out g3);have Z3:=hid ((g3.block w.heap.size (lt_some Z2.out) (by intro e;have:=Option.some.inj e;omega)).trans Z2.out);have hc3:=s3.c;rw [L2.out] at hc3;obtain ⟨d0,d1,df⟩:=s3.cells (i:=a+1) (by rw [L2.out];exact H1.out);have hb3:=cell_lt hc3;have hgb3:=cell_lt d0;clear s3 g3 z0 z1))
  have S4:=hid (S3.out.set (a+1) ⟨4,0⟩ (by rw [L2.out];exact H1.out))
  have G4:=hid (grown_trans G3.out (grown2 w3 gb ((a+1)*2) ((a+1)*2+1) (.int .i64 4) (.int .i64 0)))
  have Z4:=hid (((grown2 w3 gb ((a+1)*2) ((a+1)*2+1) (.int .i64 4) (.int .i64 0)).block w.heap.size (lt_some Z3.out) (by intro e;have:=Option.some.inj e;omega)).trans Z3.out)
  have L4:Hid (((losT (losT l a) (a+1)).set (a+1) ⟨4,0⟩).length=l.length):=by show ((losT (losT l a) (a+1)).set (a+1) ⟨4,0⟩).length=_;rw [List.length_set,L2.out]
  generalize (losT (losT l a) (a+1)).set (a+1) ⟨4,0⟩=l4 at *
  clear hc3 d0 d1 df hb3 hgb3 S3 G3 Z3
  have S4:Hid (Sl ((w3.setCell ⟨gb,(a+1)*2,none⟩ (.int .i64 4)).setCell ⟨gb,(a+1)*2+1,none⟩ (.int .i64 0)) b gb cap base l4):=S4
  generalize (w3.setCell ⟨gb,(a+1)*2,none⟩ (.int .i64 4)).setCell ⟨gb,(a+1)*2+1,none⟩ (.int .i64 0)=w4 at *
  have hc4:=S4.out.c
  rw [L4.out] at hc4
  obtain ⟨e0,e1,ef⟩:=S4.out.cells (i:=a) (by rw [L4.out];exact HA.out)
  have hb4:=cell_lt hc4
  have hgb4:=cell_lt e0
  have y0:=c0_of Z4.out
  have y1:=c1_of Z4.out
  have hz4:=cell_lt y0
  go_region
  go_wp2
  go_end0
  exact ⟨rfl,by rw [E1.out];exact (S4.out.set a v (by rw [L4.out];exact HA.out)).bl (Bl.refl _).drew,grown_bl2 (grown_trans G4.out (grown2 _ _ _ _ _ _)) (Bl.refl _).drew⟩
 ·have hz:(v.kind==2)=false:=by simpa using h2
  have E1:Hid (wrT l a v=(losT l a).set a v):=by show wrT l a v=_;unfold wrT;rw [if_neg h2]
  have HA:=hid ha
  have L1:=hid ll
  clear H h2 T hv ha hl ll
  go_enter Tryz.func202,Tryz.ntmps202
  go_wp2_with (go_at_call 235;refine HS.out.mono ?_;rintro e w2 ⟨rfl,s2,g2⟩;have S2:=hid s2;have G2:=hid (grown_bl' HB.out g2);have Z2:=hid ((g2.block w.heap.size (by simp) (by intro e;have:=Option.some.inj e;omega)).trans HL.out);have z0:=c0_of Z2.out;have z1:=c1_of Z2.out;clear s2 g2)
  have hc4:=S2.out.c
  rw [L1.out] at hc4
  obtain ⟨e0,e1,ef⟩:=S2.out.cells (i:=a) (by rw [L1.out];exact HA.out)
  have hb4:=cell_lt hc4
  have hgb4:=cell_lt e0
  have hz4:=cell_lt z0
  go_region
  go_wp2
  go_end0
  exact ⟨rfl,by rw [E1.out];exact (S2.out.set a v (by rw [L1.out];exact HA.out)).bl (Bl.refl _).drew,grown_bl2 (grown_trans G2.out (grown2 _ _ _ _ _ _)) (Bl.refl _).drew⟩
theorem numbers_any (x n:Int) (w:World) :
  Calls Tryz.prog 97 #[.int .i64 x,.int .i64 n] w fun e w'=>e=.returned (.bool (decide (0≤x∧x<n)))∧w'=w:=by
 go_enter Tryz.func97,Tryz.ntmps97
 go_wp2
 all_goals
  go_ret
  refine ⟨ret_bool ?_,rfl⟩
  rw [Bool.eq_iff_iff];simp;try omega
theorem span_any (n lo hi:Int) (w:World) :
  Calls Tryz.prog 35 #[.int .i64 n,.int .i64 lo,.int .i64 hi] w fun e w'=>e=.returned (.bool (decide (lo≤n∧n≤hi)))∧w'=w:=by
 go_enter Tryz.func35,Tryz.ntmps35
 go_wp2
 all_goals
  go_ret
  refine ⟨ret_bool ?_,rfl⟩
  rw [Bool.eq_iff_iff];simp;try omega
theorem maySuper_any (c s:Int) (w:World) :
  Calls Tryz.prog 77 #[.int .i64 c,.int .i64 s] w fun e w'=>e=.returned (.bool (decide ((c=0∧s=-1)∨(c≠0∧0≤s∧s<c))))∧w'=w:=by
 by_cases h0:c=0
 ·subst h0
  go_enter Tryz.func77,Tryz.ntmps77
  go_wp2
  all_goals
   go_ret
   refine ⟨ret_bool ?_,rfl⟩
   rw [Bool.eq_iff_iff];simp
 ·go_enter Tryz.func77,Tryz.ntmps77
  go_wp2_with (go_at_call 97;refine (numbers_any _ _ _).mono ?_;rintro e w' ⟨rfl,rfl⟩)
  all_goals
   go_ret
   refine ⟨ret_bool ?_,rfl⟩
   rw [Bool.eq_iff_iff];simp;omega
theorem mayType_any (n:Nat) (k x:Int) (w:World) :
  Calls Tryz.prog 137 #[.agg #[.int .i64 k,.int .i64 x],.int .i64 n] w fun e w'=>e=.returned (.bool (tyB n ⟨k,x⟩))∧Bl w w':=by
 have hk:k=1∨k=2∨k=3∨(k≠1∧k≠2∧k≠3):=by omega
 rcases hk with rfl|rfl|rfl|⟨h1,h2,h3⟩
 all_goals
  go_enter Tryz.func137,Tryz.ntmps137
  go_wp2_with (go_at_call 97;refine (numbers_any _ _ _).mono ?_;rintro e w' ⟨rfl,rfl⟩)
  go_ret
  refine ⟨ret_bool ?_,(Bl.refl _).alloc _⟩
  unfold tyB
  rw [Bool.eq_iff_iff];simp;try omega
def fldB (n:Nat) (f:List Ty):Bool:=decide (f.length≤6)&&f.all (tyB n)
theorem fld_long {n:Nat} {f:List Ty} (h:¬f.length≤6):fldB n f=false:=by unfold fldB;rw [decide_eq_false h];rfl
theorem all_ty_bad {n q:Nat} {f:List Ty} (hq:q<f.length) (h:tyB n (nth ty0 f q)=false):f.all (tyB n)=false:=by
 rw [List.all_eq_false];exact ⟨nth ty0 f q,nth_mem hq,by rw [h];decide⟩
theorem all_ty_good {n:Nat} {f:List Ty} (ht:∀k,k<f.length→tyB n (nth ty0 f k)=true):f.all (tyB n)=true:=by
 rw [List.all_eq_true]
 intro x hx
 obtain ⟨k,hk,rfl⟩:=List.getElem_of_mem hx
 rw [←nth_get hk];exact ht k hk
theorem mayTypes_any (A:Option Addr) (n c:Nat) (F:List Ty) (w:World) (hl:TysAt w A F) :
  Calls Tryz.prog 79 #[.int .i64 n,.slice A F.length c] w fun e w'=>e=.returned (.bool (F.all (tyB n)))∧Bl w w':=by
 obtain ⟨hm,hl⟩:=hl
 unfold maxLen at hm
 have HG:Hid ((∀k,k<F.length→tyB n (nth ty0 F k)=true)→F.all (tyB n)=true):=all_ty_good
 have HT:Hid (∀q,q<F.length→tyB n (nth ty0 F q)=false→F.all (tyB n)=false):=fun q=>all_ty_bad
 obtain ⟨R,hR⟩:∃R,F.all (tyB n)=R:=⟨_,rfl⟩
 rw [hR] at HG HT ⊢
 clear hR
 go_enter Tryz.func79,Tryz.ntmps79
 go_wp2
 go_loopw [9] (fun i wr=>∃q:Nat,q≤F.length∧i=.int .i64 q∧Hid (∀j,j<q→tyB n (nth ty0 F j)=true)∧Hid (Bl w wr)) (fun i _=>F.length-(intOf i).toNat)
 case atStart=>exact ⟨0,Nat.zero_le _,rfl,fun j hj=>absurd hj (Nat.not_lt_zero _),Bl.refl _⟩
 case round =>
  obtain ⟨q,hq,rfl,hgq,hg⟩:=hrel
  by_cases hql:q<F.length
  ·rcases hl with h0|⟨b,off,rfl,hcell⟩
   ·omega
   obtain ⟨ht1,ht2,-,-⟩:=hcell q hql
   replace ht1:=hg.out.cell ht1
   replace ht2:=hg.out.cell ht2
   clear hcell HG
   cases hT:tyB n (nth ty0 F q)
   ·have hT':tyB n ⟨(nth ty0 F q).kind,(nth ty0 F q).cls⟩=false:=hT
    have HF:=HT.out q hql hT
    clear HT hT
    go_wp2_with (go_at_call 137;refine (mayType_any _ _ _ _).mono ?_;rintro e w1 ⟨rfl,hg1⟩)
    go_ret
    exact ⟨ret_bool HF.symm,(hg.out.alloc _).trans hg1⟩
   ·have hT':tyB n ⟨(nth ty0 F q).kind,(nth ty0 F q).cls⟩=true:=hT
    have HT1:Hid (tyB n (nth ty0 F q)=true):=hT
    clear hT HT
    go_wp2_with (go_at_call 137;refine (mayType_any _ _ _ _).mono ?_;rintro e w1 ⟨rfl,hg1⟩)
    go_roundw
    case rel=>exact ⟨q+1,by omega,by go_num,fun j hj=>if h:j<q then hgq.out j h else by have:j=q:=(by omega);subst this;exact HT1.out,(hg.out.alloc _).trans hg1⟩
    case measure=>simp [intOf];omega
  ·have hkk:q=F.length:=by omega
   subst hkk
   have HF:=HG.out hgq.out
   clear HG hl
   go_wp2
   go_ret
   exact ⟨ret_bool HF.symm,hg.out⟩
theorem mayFields_any (A:Option Addr) (n c:Nat) (F:List Ty) (w:World) (hl:TysAt w A F) :
  Calls Tryz.prog 78 #[.slice A F.length c,.int .i64 n] w fun e w'=>e=.returned (.bool (fldB n F))∧Bl w w':=by
 have hm:=hl.1
 unfold maxLen at hm
 by_cases h6:F.length≤6
 ·have hb:fldB n F=F.all (tyB n):=by unfold fldB;rw [decide_eq_true h6];rfl
  rw [hb]
  go_enter Tryz.func78,Tryz.ntmps78
  go_wp2_with (go_at_call 79;refine (mayTypes_any _ _ _ _ _ hl).mono ?_;rintro e w1 ⟨rfl,hg1⟩)
  go_ret
  exact ⟨rfl,hg1⟩
 ·have hb:=fld_long (n:=n) h6
  rw [hb]
  clear hb hl
  go_enter Tryz.func78,Tryz.ntmps78
  go_wp2
  go_ret
  exact ⟨rfl,Bl.refl _⟩
def supB (l:List Cl) (i:Nat):Bool:=decide (((i:Int)=0∧(nth cl0 l i).super=-1)∨((i:Int)≠0∧0≤(nth cl0 l i).super∧(nth cl0 l i).super<i))
theorem may_sup {l:List Cl} {i:Nat} (hi:i<l.length) (h:supB l i=false):mayB l=false:=by
 unfold supB at h
 rw [decide_eq_false_iff_not] at h
 by_cases h0:i=0
 ·subst h0;exact may_few (by omega)
 ·exact may_cl hi (cl_bad (by omega))
theorem may_fld {l:List Cl} {i:Nat} (hi:i<l.length) (h:fldB l.length (nth cl0 l i).fields=false):mayB l=false:=by
 refine may_cl hi ?_
 by_cases h6:(nth cl0 l i).fields.length≤6
 ·unfold fldB at h
  rw [decide_eq_true h6,Bool.true_and] at h
  unfold clB;rw [h,Bool.and_false]
 ·exact cl_bad (by omega)
theorem may_both {l:List Cl} (h4:4≤l.length) (h12:l.length≤12) (h:∀i,i<l.length→supB l i=true∧fldB l.length (nth cl0 l i).fields=true):mayB l=true:=by
 have h0:=(h 0 (by omega)).1
 unfold supB at h0
 rw [decide_eq_true_eq] at h0
 refine may_good ⟨h4,h12,by omega⟩ fun i hi=>?_
 obtain ⟨h1,h2⟩:=h i hi
 unfold supB at h1;unfold fldB at h2
 rw [decide_eq_true_eq] at h1
 rw [Bool.and_eq_true,decide_eq_true_eq] at h2
 unfold clB
 rw [h2.2,Bool.and_true,decide_eq_true_eq]
 exact ⟨by omega,h2.1⟩
theorem may_any (A:Option Addr) (c:Nat) (l:List Cl) (w:World) (hl:ClsAt w A l) :
  Calls Tryz.prog 34 #[.slice A l.length c] w fun e w'=>e=.returned (.bool (mayB l))∧Bl w w':=by
 obtain ⟨hm,hl⟩:=hl
 unfold maxLen at hm
 by_cases h4:¬(4≤(l.length:Int)∧(l.length:Int)≤12)
 ·have hb:mayB l=false:=may_few (by omega)
  rw [hb]
  clear hb hl
  have hd:decide (4≤(l.length:Int)∧(l.length:Int)≤12)=false:=decide_eq_false h4
  go_enter Tryz.func34,Tryz.ntmps34
  go_wp2_with (go_at_call 35;refine (span_any _ _ _ _).mono ?_;rintro e w1 ⟨he,rfl⟩;rw [hd] at he;subst he)
  go_ret
  exact ⟨rfl,Bl.refl _⟩
 replace h4:=Decidable.of_not_not h4
 have hd:decide (4≤(l.length:Int)∧(l.length:Int)≤12)=true:=decide_eq_true h4
 rcases hl with hl|⟨b,off,rfl,hc⟩
 ·omega
 have HB:Hid ((∀i,i<l.length→supB l i=true∧fldB l.length (nth cl0 l i).fields=true)→mayB l=true):=may_both (by omega) (by omega)
 go_enter Tryz.func34,Tryz.ntmps34
 go_wp2_with (go_at_call 35;refine (span_any _ _ _ _).mono ?_;rintro e w1 ⟨he,hw1⟩;rw [hd] at he;subst he;rw [hw1];clear hw1 w1)
 go_loopw [11] (fun i wr=>∃k:Nat,k≤l.length∧i=.int .i64 k∧Hid (∀j,j<k→supB l j=true∧fldB l.length (nth cl0 l j).fields=true)∧Hid (Bl w wr)) (fun i _=>l.length-(intOf i).toNat)
 case atStart=>exact ⟨0,Nat.zero_le _,rfl,fun j hj=>absurd hj (Nat.not_lt_zero _),Bl.refl _⟩
 case round =>
  obtain ⟨k,hk,rfl,hgood,hg⟩:=hrel
  by_cases hlt:k<l.length
  ·obtain ⟨hsup,hsb,A',c',hfl,hty⟩:=hc k hlt
   replace hsup:=hg.out.cell hsup
   replace hfl:=hg.out.cell hfl
   have HTY:Hid (TysAt wr A' (nth cl0 l k).fields):=hty.bl hg.out
   have HS:Hid (supB l k=false→mayB l=false):=may_sup hlt
   have HF:Hid (fldB l.length (nth cl0 l k).fields=false→mayB l=false):=may_fld hlt
   clear hc HB hty
   cases hS:supB l k
   ·have HBAD:=HS.out hS
    have hS':decide (((k:Int)=0∧(nth cl0 l k).super=-1)∨((k:Int)≠0∧0≤(nth cl0 l k).super∧(nth cl0 l k).super<k))=false:=hS
    clear hS
    go_wp2_with (go_at_call 77;refine (maySuper_any _ _ _).mono ?_;rintro e w1 ⟨he,rfl⟩;rw [hS'] at he;subst he)
    go_ret
    exact ⟨ret_bool HBAD.symm,hg.out.alloc _⟩
   ·have HST:Hid (supB l k=true):=hS
    have hS':decide (((k:Int)=0∧(nth cl0 l k).super=-1)∨((k:Int)≠0∧0≤(nth cl0 l k).super∧(nth cl0 l k).super<k))=true:=hS
    clear hS
    cases hF:fldB l.length (nth cl0 l k).fields
    ·have HBAD:=HF.out hF
     go_wp2_with (first
      | (go_at_call 77;refine (maySuper_any _ _ _).mono ?_;rintro e w1 ⟨he,rfl⟩;rw [hS'] at he;subst he)
      | (go_at_call 78;refine (mayFields_any _ _ _ _ _ (HTY.out.bl ((Bl.refl _).alloc _))).mono ?_;rintro e w1 ⟨he,hg1⟩;rw [hF] at he;subst he))
     go_ret
     exact ⟨ret_bool HBAD.symm,(hg.out.alloc _).trans hg1⟩
    ·have HFT:Hid (fldB l.length (nth cl0 l k).fields=true):=hF
     go_wp2_with (first
      | (go_at_call 77;refine (maySuper_any _ _ _).mono ?_;rintro e w1 ⟨he,rfl⟩;rw [hS'] at he;subst he)
      | (go_at_call 78;refine (mayFields_any _ _ _ _ _ (HTY.out.bl ((Bl.refl _).alloc _))).mono ?_;rintro e w1 ⟨he,hg1⟩;rw [hF] at he;subst he))
     go_roundw
     case rel=>exact ⟨k+1,by omega,by go_num,fun j hj=>if h:j<k then hgood.out j h else by have:j=k:=(by omega);subst this;exact ⟨HST.out,HFT.out⟩,(hg.out.alloc _).trans hg1⟩
     case measure=>simp [intOf];omega
  ·have hkk:k=l.length:=by omega
   subst hkk
   have HBB:=HB.out hgood.out
   clear HB hc
   go_wp2
   go_ret
   exact ⟨ret_bool HBB.symm,hg.out⟩
theorem within_any (n lo hi:Int) (w:World) :
  Calls Tryz.prog 20 #[.int .i64 n,.int .i64 lo,.int .i64 hi] w fun e w'=>e=.returned (.bool (decide (lo≤n∧n≤hi)))∧w'=w:=by
 go_enter Tryz.func20,Tryz.ntmps20
 go_wp2
 all_goals
  go_ret
  refine ⟨ret_bool ?_,rfl⟩
  rw [Bool.eq_iff_iff];simp;try omega
theorem rslots_any (A:Option Addr) (c:Nat) (F:List Ty) (w:World) (hl:TysAt w A F) (hb:F.length≤1000000) :
  Calls Tryz.prog 22 #[.slice A F.length c] w fun e w'=>e=.returned (.int .i64 (slotsN F:Nat))∧w'=w:=by
 obtain ⟨hm,hl⟩:=hl
 clear hm
 have HS:Hid (∀k,k<F.length→slotsN (F.take (k+1))=slotsN (F.take k)+(if (nth ty0 F k).kind=2 then 2 else 1)):=slotsN_take F
 have HB:Hid (∀k,slotsN (F.take k)≤2*k):=fun k=>by have:=slotsN_le (F.take k);have:=List.length_take_le k F;omega
 go_enter Tryz.func22,Tryz.ntmps22
 go_wp2
 go_loop [3,4] (fun n i=>∃k:Nat,k≤F.length∧i=.int .i64 k∧n=.int .i64 ((F.length:Int)+((slotsN (F.take k):Nat):Int)-k)) (fun _ i=>F.length-(intOf i).toNat)
 case atStart=>exact ⟨0,Nat.zero_le _,rfl,by simp [slotsN]⟩
 case round =>
  obtain ⟨k,hk,rfl,rfl⟩:=hrel
  have h2:=HB.out k
  by_cases hlt:k<F.length
  ·rcases hl with h0|⟨b,off,rfl,hcell⟩
   ·omega
   have ht:=(hcell k hlt).1
   have hs:=HS.out k hlt
   clear hcell
   by_cases hk2:(nth ty0 F k).kind=2
   ·rw [if_pos hk2] at hs
    rw [hk2] at ht
    have HS':Hid (slotsN (F.take (k+1))=slotsN (F.take k)+2):=hs
    clear hs hk2
    go_wp2
    go_round
    case rel=>exact ⟨k+1,by omega,by go_num,by rw [HS'.out];go_num⟩
    case measure=>simp [intOf];omega
   ·rw [if_neg hk2] at hs
    have HS':Hid (slotsN (F.take (k+1))=slotsN (F.take k)+1):=hs
    have hk2':((nth ty0 F k).kind==2)=false:=by simpa using hk2
    clear hs hk2
    go_wp2
    go_round
    case rel=>exact ⟨k+1,by omega,by go_num,by rw [HS'.out];go_num⟩
    case measure=>simp [intOf];omega
  ·obtain rfl:k=F.length:=by omega
   rw [List.take_length] at *
   go_wp2
   go_ret
   exact ⟨ret_int (by omega),rfl⟩
end Go.Proofs.YtgiiapenmjollaaGreat
