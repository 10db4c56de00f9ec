import Derived.Test.YtgiiapenmjollabGreatRlab
namespace Go.Proofs.YtgiiapenmjollabGreat
set_option linter.all false
set_option maxHeartbeats 40000000
set_option maxRecDepth 100000
open Go.RowKit
def Kd (h:Hp):Prop:=∀o∈h.objs,∀x∈o.held,x.v.kind=(fieldT h.file.classes x.cls x.fld).kind
theorem Kd.same {h h':Hp} (k:Kd h) (e1:h'.objs=h.objs) (e2:h'.file=h.file):Kd h':=by
 unfold Kd
 rw [e1,e2]
 exact k
theorem fin_ob (h:Hp) (e:Int):(h.fin e).objs=h.objs∧(h.fin e).file=h.file:=by unfold Hp.fin;split<;>exact ⟨rfl,rfl⟩
theorem Kd.fin {h:Hp} (k:Kd h) (e:Int):Kd (h.fin e):=k.same (fin_ob h e).1 (fin_ob h e).2
theorem Kd.must {h:Hp} (k:Kd h) (b:Bool):Kd (h.must b):=by unfold Hp.must;split;exact k;exact k.fin 6
theorem newHeld_kd (cs:List Cl) (c:Nat):∀x∈newHeld cs c,x.v.kind=(fieldT cs x.cls x.fld).kind:=by
 intro x hx
 unfold newHeld at hx
 rw [List.mem_flatMap] at hx
 obtain ⟨d,-,hd⟩:=hx
 unfold heldOf at hd
 split at hd
 ·rw [List.mem_map] at hd
  obtain ⟨k,-,rfl⟩:=hd
  rfl
 ·simp at hd
theorem Kd.new {h:Hp} (k:Kd h) (c:Int):Kd (h.new c):=by
 unfold Hp.new;split
 ·exact k.fin 4
 ·intro o ho x hx
  dsimp only at ho ⊢
  rw [List.mem_append] at ho
  rcases ho with ho|ho
  ·exact k o ho x hx
  ·simp at ho;subst ho;exact newHeld_kd _ _ x hx
theorem Kd.raise {h:Hp} (k:Kd h) (c:Int):Kd (h.raise c):=by
 unfold Hp.raise;split
 ·exact k.new c
 ·exact (k.new c).same rfl rfl
theorem Kd.throw {h:Hp} (k:Kd h) (v:Va):Kd (h.throw v):=by
 unfold Hp.throw;split
 ·split
  ·exact k.raise 1
  ·exact k.same rfl rfl
 ·exact k.must _
theorem Kd.findH {h:Hp} (k:Kd h) (r:Va) (c:Int):Kd (h.findH r c):=by
 unfold Hp.findH;split
 ·split
  ·exact k.raise 1
  ·exact k
 ·exact k.must _
theorem held_is {l:List Hel} {c k:Int} {q:Nat} (h:heldAt l c k=q):q<l.length∧(nth hel0 l q).cls=c∧(nth hel0 l q).fld=k:=by
 unfold heldAt at h
 split at h
 ·rename_i i hi
  rw [List.findIdx?_eq_some_iff_getElem] at hi
  obtain ⟨h1,h2,-⟩:=hi
  have e:i=q:=by exact_mod_cast h
  subst e
  rw [nth_get h1]
  have:=of_decide_eq_true h2
  exact ⟨h1,this.1,this.2⟩
 ·omega
theorem find_at {h:Hp} {r:Va} {c k:Int} (hn:¬h.findN r c k<0):h.findH r c=h∧h.mustB (h.of r ⟨3,c⟩)=true∧¬r.n<0∧heldAt (h.obj r.n).held c k=(h.findN r c k).toNat:=by
 unfold Hp.findN at hn ⊢
 split
 ·rename_i hm
  rw [if_pos hm] at hn
  split
  ·rename_i h1;rw [if_pos h1] at hn;omega
  ·rename_i h1
   rw [if_neg h1] at hn
   refine ⟨?_,hm,h1,by omega⟩
   unfold Hp.findH
   rw [if_pos hm,if_neg h1]
 ·rename_i hm;rw [if_neg hm] at hn;omega
theorem Kd.put {h:Hp} (g:Kd h) (r:Va) (c k:Int) (v:Va):Kd (h.put r c k v):=by
 unfold Hp.put;split
 ·rename_i hm
  split
  ·exact g.findH r c
  ·rename_i hn
   obtain ⟨e1,e2,e3,e4⟩:=find_at hn
   obtain ⟨p1,p2,p3⟩:=held_is e4
   rw [e1]
   generalize (h.findN r c k).toNat=j at p1 p2 p3
   intro o ho x hx
   unfold Hp.setV at ho ⊢
   dsimp only at ho ⊢
   by_cases hl:r.n.toNat<h.objs.length
   ·rcases mem_set' ho with rfl|ho
    ·dsimp only at hx
     rcases mem_set' hx with rfl|hx
     ·dsimp only
      have hk:v.kind=(fieldT h.file.classes c k).kind:=by
       have:=(mustB_true hm).1
       unfold Hp.of at this
       rw [Bool.and_eq_true] at this
       exact of_decide_eq_true this.1
      unfold Hp.obj at p2 p3
      rw [p2,p3];exact hk
     ·exact g _ (nth_mem hl) x hx
    ·exact g o ho x hx
   ·rw [List.set_eq_of_length_le (by omega)] at ho;exact g o ho x hx
 ·exact g.must _
theorem Kd.cast {h:Hp} (k:Kd h) (v:Va) (c:Int):Kd (h.cast v c):=by
 unfold Hp.cast;split
 ·split
  ·exact k
  ·exact k.raise 3
 ·exact k.must _
theorem Kd.emit {h:Hp} (k:Kd h) (v:Va) (n:Int):Kd (h.emit v n):=by
 unfold Hp.emit;split
 ·exact k.same rfl rfl
 ·exact k.must _
theorem Kd.input {h:Hp} (k:Kd h):Kd h.input':=by
 unfold Hp.input';split
 ·exact k.fin 3
 ·exact k.same rfl rfl
theorem Kd.reckH {h:Hp} (k:Kd h) (a b:Va) (n op:Int):Kd (h.reckH a b n op):=by
 unfold Hp.reckH;split
 ·split
  ·exact k
  ·exact k.raise 2
 ·exact k.must _
theorem Kd.step {h:Hp} (k:Kd h):Kd h.step:=by
 unfold Hp.step;split
 ·exact k
 ·split
  ·exact k.fin 0
  ·exact k.same rfl rfl
theorem getV_kind {h:Hp} (g:Kd h) {r:Va} {c k:Int} (hr:GdV h r) (hn:¬h.findN r c k<0):(h.getV r c k).kind=(fieldT h.file.classes c k).kind:=by
 obtain ⟨e1,e2,e3,e4⟩:=find_at hn
 obtain ⟨p1,p2,p3⟩:=held_is e4
 have h3:r.kind=3:=of_ref (mustB_true e2).1
 have hol:r.n.toNat<h.objs.length:=by have:=(hr.ref h3).2;omega
 unfold Hp.getV
 rw [if_neg hn]
 have:=g _ (nth_mem (d:=ob0) hol) _ (nth_mem (d:=hel0) p1)
 refine Eq.trans this ?_
 show (fieldT h.file.classes (nth hel0 (h.obj r.n).held (h.findN r c k).toNat).cls (nth hel0 (h.obj r.n).held (h.findN r c k).toNat).fld).kind=_
 rw [p2,p3]
end Go.Proofs.YtgiiapenmjollabGreat
