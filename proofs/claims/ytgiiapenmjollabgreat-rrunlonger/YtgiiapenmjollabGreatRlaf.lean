import Derived.Test.YtgiiapenmjollabGreatRlae
import Derived.Deep.RegionHeld3
namespace Go.Proofs.YtgiiapenmjollabGreat
set_option linter.all false
set_option maxHeartbeats 40000000
set_option maxRecDepth 100000
open Go.RowKit
def RXY (s:Nat) (X Y:Nat→Prop) (wx w0:World) (g:Mg) (w:World) (h:Hp) (qs:List Qb) (a:Mc) (c:Cal):Prop :=
 ∃vc vo vx vs l,RXA s X wx w0 g w h qs a c vc vo vx vs l∧∀b,Y b→b<w.heap.size∧w0.heap.size≤b∧¬X b∧FarR g vc vo vx b∧FarC a vs b
def noY:Nat→Prop:=fun _=>False
theorem RX.y {s:Nat} {X:Nat→Prop} {wx w0 w:World} {g:Mg} {h:Hp} {qs:List Qb} {a:Mc} {c:Cal} (H:RX s X wx w0 g w h qs a c):RXY s X noY wx w0 g w h qs a c:=by
 obtain ⟨vc,vo,vx,vs,l,H⟩:=H
 exact ⟨vc,vo,vx,vs,l,H,fun b hb=>absurd hb (fun x=>x)⟩
theorem RXY.x {s:Nat} {X Y:Nat→Prop} {wx w0 w:World} {g:Mg} {h:Hp} {qs:List Qb} {a:Mc} {c:Cal} (H:RXY s X Y wx w0 g w h qs a c):RX s X wx w0 g w h qs a c:=by
 obtain ⟨vc,vo,vx,vs,l,H,-⟩:=H
 exact ⟨vc,vo,vx,vs,l,H⟩
theorem RXY.size {s:Nat} {X Y:Nat→Prop} {wx w0 w:World} {g:Mg} {h:Hp} {qs:List Qb} {a:Mc} {c:Cal} (H:RXY s X Y wx w0 g w h qs a c):w0.heap.size≤w.heap.size:=by
 obtain ⟨vc,vo,vx,vs,l,H,-⟩:=H
 exact H.rh.bl.size
theorem RX.size {s:Nat} {X:Nat→Prop} {wx w0 w:World} {g:Mg} {h:Hp} {qs:List Qb} {a:Mc} {c:Cal} (H:RX s X wx w0 g w h qs a c):w0.heap.size≤w.heap.size:=H.y.size
theorem RXY.bl {s:Nat} {X Y:Nat→Prop} {wx w0 w w':World} {g:Mg} {h:Hp} {qs:List Qb} {a:Mc} {c:Cal} (H:RXY s X Y wx w0 g w h qs a c) (hb:Bl w w'):RXY s X (Xp Y w.heap.size w'.heap.size) wx w0 g w' h qs a c:=by
 have hs:=H.size
 obtain ⟨vc,vo,vx,vs,l,H,F⟩:=H
 refine ⟨vc,vo,vx,vs,l,H.bl hb,fun b hy=>?_⟩
 have hsz:=hb.size
 rcases hy with hy|hy
 ·obtain ⟨h1,h2,h3,h4,h5⟩:=F b hy
  exact ⟨by omega,h2,h3,h4,h5⟩
 ·refine ⟨hy.2,by omega,fun hx=>?_,H.rh.farNew hy.1,H.ca.farNew hy.1⟩
  have:=(H.kept.blk b hx).1
  have:=H.kept.size
  omega
theorem RXY.less {s:Nat} {X Y Z:Nat→Prop} {wx w0 w:World} {g:Mg} {h:Hp} {qs:List Qb} {a:Mc} {c:Cal} (H:RXY s X Y wx w0 g w h qs a c) (hz:∀b,Z b→Y b):RXY s X Z wx w0 g w h qs a c:=by
 obtain ⟨vc,vo,vx,vs,l,H,F⟩:=H
 exact ⟨vc,vo,vx,vs,l,H,fun b hb=>F b (hz b hb)⟩
theorem RXY.set {s:Nat} {X Y:Nat→Prop} {wx w0 w:World} {g:Mg} {h:Hp} {qs:List Qb} {a:Mc} {c:Cal} (H:RXY s X Y wx w0 g w h qs a c) {b:Nat} (hb:Y b) (i:Nat) (v:Value):RXY s X Y wx w0 g (w.setCell ⟨b,i,none⟩ v) h qs a c:=by
 obtain ⟨vc,vo,vx,vs,l,H,F⟩:=H
 obtain ⟨h1,h2,h3,h4,h5⟩:=F b hb
 have hg:=grown_set (w:=w) b i v
 refine ⟨vc,vo,vx,vs,l,⟨H.rh.kept hg (fun x e=>?_),H.ca.kept hg (fun x e=>?_),H.farr,H.farc,H.kept.kept hg (fun x e hx=>?_)⟩,fun x hx=>?_⟩
 ·cases e;exact ⟨h2,h4⟩
 ·cases e;exact h5
 ·cases e;exact h3 hx
 ·obtain ⟨y1,y2⟩:=F x hx
  exact ⟨by simpa [World.setCell] using y1,y2⟩
structure KpY (Y:Nat→Prop) (w w':World):Prop where
 size:w.heap.size≤w'.heap.size
 blk:∀b,Y b→w'.heap[b]?=w.heap[b]?
theorem KpY.at {Y:Nat→Prop} {w w':World} (h:KpY Y w w') {b:Nat} {o:Obj} (hb:Y b) (ho:w.heap[b]?=some o):w'.heap[b]?=some o:=(h.blk b hb).trans ho
theorem KpY.to {Y:Nat→Prop} {w w' w2:World} (h:KpY Y w w') (hb:Bl w' w2) (hs:∀b,Y b→b<w.heap.size):KpY Y w w2 :=
 ⟨Nat.le_trans h.size hb.size,fun b hy=>(hb.block b (Nat.lt_of_lt_of_le (hs b hy) h.size)).trans (h.blk b hy)⟩
theorem RXY.wide {s:Nat} {X Y:Nat→Prop} {wx w0 w w':World} {g:Mg} {h:Hp} {qs:List Qb} {a:Mc} {c:Cal} (H:RXY s X Y wx w0 g w h qs a c) (hb:Bl w w'):RX s (fun b=>X b∨Xp Y w.heap.size w'.heap.size b) w' w0 g w' h qs a c:=by
 obtain ⟨vc,vo,vx,vs,l,H,F⟩:=H.bl hb
 refine ⟨vc,vo,vx,vs,l,H.rh,H.ca,?_,?_,Nat.le_refl _,fun b hx=>⟨?_,rfl⟩⟩
 ·rintro b (hx|hx)
  ·exact H.farr b hx
  ·exact (F b hx).2.2.2.1
 ·rintro b (hx|hx)
  ·exact H.farc b hx
  ·exact (F b hx).2.2.2.2
 ·rcases hx with hx|hx
  ·have:=(H.kept.blk b hx).1;have:=H.kept.size;omega
  ·exact (F b hx).1
theorem RXY.back {s s':Nat} {X Y:Nat→Prop} {wx w0 w w' w2:World} {g:Mg} {h h':Hp} {qs qs':List Qb} {a a':Mc} {c c':Cal} (H:RXY s X Y wx w0 g w h qs a c) (hb:Bl w w') (H2:RX s' (fun b=>X b∨Xp Y w.heap.size w'.heap.size b) w' w0 g w2 h' qs' a' c') :
  RXY s' X (Xp Y w.heap.size w'.heap.size) wx w0 g w2 h' qs' a' c'∧KpY (Xp Y w.heap.size w'.heap.size) w' w2:=by
 obtain ⟨vc,vo,vx,vs,l,H,F⟩:=H.bl hb
 obtain ⟨vc',vo',vx',vs',l',H2⟩:=H2
 refine ⟨⟨vc',vo',vx',vs',l',⟨H2.rh,H2.ca,fun b hx=>H2.farr b (Or.inl hx),fun b hx=>H2.farc b (Or.inl hx),Nat.le_trans H.kept.size H2.kept.size,fun b hx=>⟨(H.kept.blk b hx).1,?_⟩⟩,fun b hy=>?_⟩,H2.kept.size,fun b hy=>(H2.kept.blk b (Or.inr hy)).2⟩
 ·rw [(H2.kept.blk b (Or.inl hx)).2]
  exact (H.kept.blk b hx).2
 ·obtain ⟨h1,h2,h3,h4,h5⟩:=F b hy
  exact ⟨Nat.lt_of_lt_of_le h1 H2.kept.size,h2,h3,H2.farr b (Or.inr hy),H2.farc b (Or.inr hy)⟩
def RS (s:Nat) (X:Nat→Prop) (wx w0:World) (g:Mg) (w:World) (h:Hp) (qs:List Qb) (a:Mc) (c:Cal):Prop:=∃c':Cal,c'.m=c.m∧(c'.pc=c.pc∧c'.locs=c.locs)∧RX s X wx w0 g w h qs a c'
theorem RX.rs {s:Nat} {X:Nat→Prop} {wx w0 w:World} {g:Mg} {h:Hp} {qs:List Qb} {a:Mc} {c:Cal} (H:RX s X wx w0 g w h qs a c):RS s X wx w0 g w h qs a c:=⟨c,rfl,⟨rfl,rfl⟩,H⟩
theorem RXY.rs {s:Nat} {X Y:Nat→Prop} {wx w0 w:World} {g:Mg} {h:Hp} {qs:List Qb} {a:Mc} {c:Cal} (H:RXY s X Y wx w0 g w h qs a c):RS s X wx w0 g w h qs a c:=H.x.rs
theorem RS.of {s:Nat} {X:Nat→Prop} {wx w0 w:World} {g:Mg} {h:Hp} {qs:List Qb} {a:Mc} {c c':Cal} (H:RS s X wx w0 g w h qs a c) (h1:c.m=c'.m) (h2:c.pc=c'.pc∧c.locs=c'.locs):RS s X wx w0 g w h qs a c':=by
 obtain ⟨d,e1,e2,H⟩:=H
 exact ⟨d,e1.trans h1,⟨e2.1.trans h2.1,e2.2.trans h2.2⟩,H⟩
theorem RS.bl {s:Nat} {X:Nat→Prop} {wx w0 w w':World} {g:Mg} {h:Hp} {qs:List Qb} {a:Mc} {c:Cal} (H:RS s X wx w0 g w h qs a c) (hb:Bl w w'):RS s X wx w0 g w' h qs a c:=by
 obtain ⟨d,e1,e2,H⟩:=H
 exact ⟨d,e1,e2,H.bl hb⟩
theorem RXY.useY {s:Nat} {X Y:Nat→Prop} {wx w0 w w':World} {g:Mg} {h:Hp} {qs:List Qb} {a:Mc} {c:Cal} (H:RXY s X Y wx w0 g w h qs a c) (hb:Bl w w') {f:FuncId} {args:Array Value} {E:Ending} {s':Nat} {h':Hp} {qs':List Qb} {a':Mc} {c':Cal}
  (hc:∀X wx w,RX s X wx w0 g w h qs a c→Calls Tryz.prog f args w fun e w2=>e=E∧RX s' X wx w0 g w2 h' qs' a' c') :
  Calls Tryz.prog f args w' fun e w2=>e=E∧RXY s' X (Xp Y w.heap.size w'.heap.size) wx w0 g w2 h' qs' a' c'∧KpY (Xp Y w.heap.size w'.heap.size) w' w2:=by
 refine (hc _ _ _ (H.wide hb)).mono ?_
 rintro e w2 ⟨he,H2⟩
 obtain ⟨h3,h4⟩:=H.back hb H2
 exact ⟨he,h3,h4⟩
theorem RXY.useN {s:Nat} {X Y:Nat→Prop} {wx w0 w w':World} {g:Mg} {h:Hp} {qs:List Qb} {a:Mc} {c:Cal} (H:RXY s X Y wx w0 g w h qs a c) (hb:Bl w w') {f:FuncId} {args:Array Value} {E:Ending} {s':Nat} {h':Hp} {qs':List Qb} {a':Mc} {c':Cal}
  (hc:∀X wx w,RX s X wx w0 g w h qs a c→Calls Tryz.prog f args w fun e w2=>e=E∧RS s' X wx w0 g w2 h' qs' a' c') :
  Calls Tryz.prog f args w' fun e w2=>e=E∧RS s' X wx w0 g w2 h' qs' a' c':=by
 refine (hc _ _ _ (H.wide hb)).mono ?_
 rintro e w2 ⟨he,d,e1,e2,H2⟩
 exact ⟨he,d,e1,e2,(H.back hb H2).1.x⟩
theorem Xp.new {Y:Nat→Prop} {n m b:Nat} (h1:n≤b) (h2:b<m):Xp Y n m b:=Or.inr ⟨h1,h2⟩
theorem Xp.old {Y:Nat→Prop} {n m b:Nat} (h:Y b):Xp Y n m b:=Or.inl h

section
open Go.Maps (Keyed has)
theorem mint_any (n:Int) (w:World):Calls Tryz.prog 148 #[.int .i64 n] w fun e w'=>e=.returned (mvV ⟨1,n⟩)∧Bl w w':=by
 go_enter Tryz.func148,Tryz.ntmps148
 go_wp2
 refine bodyPost_ret (results_cell_row rfl _ _ w.heap.size _ _ _ _ rfl (blk_new _ _ _) Tryz.underlying115 rfl info_mv) rfl ?_
 exact ⟨rfl,(Bl.refl w).alloc _⟩
theorem mlong_any (n:Int) (w:World):Calls Tryz.prog 147 #[.int .i64 n] w fun e w'=>e=.returned (mvV ⟨2,n⟩)∧Bl w w':=by
 go_enter Tryz.func147,Tryz.ntmps147
 go_wp2
 refine bodyPost_ret (results_cell_row rfl _ _ w.heap.size _ _ _ _ rfl (blk_new _ _ _) Tryz.underlying115 rfl info_mv) rfl ?_
 exact ⟨rfl,(Bl.refl w).alloc _⟩
theorem truth_any (b:Bool) (w:World):Calls Tryz.prog 267 #[.bool b] w fun e w'=>e=.returned (mvV ⟨1,if b=true then 1 else 0⟩)∧Bl w w':=by
 have HB:Hid (Bl w (w.alloc mvZ)):=(Bl.refl w).alloc _
 have HL:=hid (blk_new w #[.int .i64 0,.int .i64 0] 115)
 cases b
 ·go_enter Tryz.func267,Tryz.ntmps267
  go_wp2_with (go_at_call 148;refine (mint_any 0 _).mono ?_;rintro e w1 ⟨rfl,b1⟩;have q0:=bl_blk b1 HL.out;have c4:=c0_of q0;have c5:=c1_of q0;have fz:=free_blk q0;have b1:=hid b1;have q0:=hid q0)
  refine bodyPost_ret (results_cell_row rfl _ _ w.heap.size _ _ _ _ rfl (set_two q0.out) Tryz.underlying115 rfl info_mv) rfl ?_
  exact ⟨rfl,bl_two (HB.out.trans b1.out) (Nat.le_refl _) _ _⟩
 ·go_enter Tryz.func267,Tryz.ntmps267
  go_wp2_with (go_at_call 148;refine (mint_any 1 _).mono ?_;rintro e w1 ⟨rfl,b1⟩;have q0:=bl_blk b1 HL.out;have c4:=c0_of q0;have c5:=c1_of q0;have fz:=free_blk q0;have b1:=hid b1;have q0:=hid q0)
  refine bodyPost_ret (results_cell_row rfl _ _ w.heap.size _ _ _ _ rfl (set_two q0.out) Tryz.underlying115 rfl info_mv) rfl ?_
  exact ⟨rfl,bl_two (HB.out.trans b1.out) (Nat.le_refl _) _ _⟩
theorem info_ty2:(Tryz.prog.info? 46).map (·.size)=some 2:=by kernel_rfl
theorem refOf_any (n:Int) (w:World):Calls Tryz.prog 205 #[.int .i64 n] w fun e w'=>e=.returned (tyMV ⟨3,n⟩)∧Bl w w':=by
 go_enter Tryz.func205,Tryz.ntmps205
 go_wp2
 refine bodyPost_ret (results_cell_row rfl _ _ w.heap.size _ _ _ _ rfl (blk_new _ _ _) Tryz.underlying46 rfl info_ty2) rfl ?_
 exact ⟨rfl,(Bl.refl w).alloc _⟩
theorem info_int1:(Tryz.prog.info? 3).map (fun i=>(i.zero,i.size,i.bytes))=some (some (.int .i64 0),1,8):=by kernel_rfl
structure Eqv (h h':Hp):Prop where
 file:h'.file=h.file
 objs:h'.objs=h.objs
 input:h'.input=h.input
 fuel:h'.fuel=h.fuel
 out:h'.sh.out=h.sh.out
 used:h'.sh.used=h.sh.used
 steps:h'.sh.steps=h.sh.steps
theorem RH.eqv {s:Nat} {w0 w:World} {g:Mg} {h h':Hp} {qs:List Qb} {vc vo vx:Value} (H:RH s w0 g w h qs vc vo vx) (e:Eqv h h'):RH s w0 g w h' qs vc vo vx:=by
 have e1:runRow g h' vc vx=runRow g h vc vx:=by unfold runRow;rw [e.file,e.input,e.fuel,e.steps,e.used]
 have e2:heapRow g h' vo=heapRow g h vo:=by unfold heapRow;rw [e.file]
 refine ⟨H.ownr,H.ownh,H.ownm,H.bl,by rw [e1];exact H.run,by rw [e2];exact H.hp,by rw [e.out];exact H.out,by rw [e.objs];exact H.obs,H.calls,?_⟩
 obtain ⟨n,D,F⟩:=H.fld
 exact ⟨n,D,F.own,by rw [e.steps];exact F.few,by rw [e.objs];exact F.hit,by rw [e.objs,e.file];exact F.miss,by rw [e.objs];exact F.new,by rw [e.objs,e.file];exact F.ks,by rw [e.objs,e.file];exact F.kd⟩
theorem RX.eqv {s:Nat} {X:Nat→Prop} {wx w0 w:World} {g:Mg} {h h':Hp} {qs:List Qb} {a:Mc} {c:Cal} (H:RX s X wx w0 g w h qs a c) (e:Eqv h h'):RX s X wx w0 g w h' qs a c:=by
 obtain ⟨vc,vo,vx,vs,l,H⟩:=H
 exact ⟨vc,vo,vx,vs,l,H.rh.eqv e,H.ca,H.farr,H.farc,H.kept⟩
theorem RS.eqv {s:Nat} {X:Nat→Prop} {wx w0 w:World} {g:Mg} {h h':Hp} {qs:List Qb} {a:Mc} {c:Cal} (H:RS s X wx w0 g w h qs a c) (e:Eqv h h'):RS s X wx w0 g w h' qs a c:=by
 obtain ⟨d,e1,e2,H⟩:=H
 exact ⟨d,e1,e2,H.eqv e⟩
theorem fin_eqv (h:Hp) (e:Int):Eqv h (h.fin e):=by unfold Hp.fin;split<;>exact ⟨rfl,rfl,rfl,rfl,rfl,rfl,rfl⟩
def Hp.mk' (h:Hp) (c:Int):Hp:={ h with objs:=h.objs++[⟨c,newHeld h.file.classes c.toNat⟩] }
theorem newHeld_init {cs:List Cl} {c:Nat} {x:Hel} (hx:x∈newHeld cs c):x.v=initV (fieldT cs x.cls x.fld):=by
 unfold newHeld at hx
 rw [List.mem_flatMap] at hx
 obtain ⟨d,-,hd⟩:=hx
 unfold heldOf at hd
 split at hd
 ·rw [List.mem_map] at hd
  obtain ⟨k,-,rfl⟩:=hd
  unfold fieldT
  simp
 ·simp at hd
theorem nth_last {α:Type} {d:α} {l:List α} {x:α}:nth d (l++[x]) l.length=x:=by simp [nth]
theorem nth_front {α:Type} {d:α} {l:List α} {x:α} {i:Nat} (h:i<l.length):nth d (l++[x]) i=nth d l i:=by simp [nth,List.getD,List.getElem?_append_left h]
theorem FldAt.push {s:Nat} {w:World} {mp:Nat} {h:Hp} {n:Nat} {D:DataW Nat} (F:FldAt s w mp h n D) (c:Int) (hl100:h.objs.length≤100):FldAt s w mp (h.mk' c) n D:=by
 have hl:(h.mk' c).objs.length=h.objs.length+1:=by simp [Hp.mk']
 refine ⟨F.own,F.few,fun o cc k v ho ic ik hx hh=>?_,fun o cc k v ho ic ik hx hh=>?_,fun o cc k ho h100 ic ik=>F.new o cc k (by omega) h100 ic ik,fun o ho=>?_,fun o ho x hx=>?_⟩
 ·by_cases e:o<h.objs.length
  ·have e1:nth ob0 (h.mk' c).objs o=nth ob0 h.objs o:=nth_front e
   rw [e1] at hx
   exact F.hit o cc k v e ic ik hx hh
  ·rw [F.new o cc k (by omega) (by omega) ic ik] at hh
   exact absurd hh (by decide)
 ·by_cases e:o<h.objs.length
  ·have e1:nth ob0 (h.mk' c).objs o=nth ob0 h.objs o:=nth_front e
   rw [e1] at hx
   exact F.miss o cc k v e ic ik hx hh
  ·have e0:o=h.objs.length:=by omega
   subst e0
   have e1:nth ob0 (h.mk' c).objs h.objs.length=⟨c,newHeld h.file.classes c.toNat⟩:=nth_last
   rw [e1] at hx
   obtain ⟨x,hx1,rfl,rfl,rfl⟩:=hx
   exact newHeld_init hx1
 ·by_cases e:o<h.objs.length
  ·have e1:nth ob0 (h.mk' c).objs o=nth ob0 h.objs o:=nth_front e
   rw [e1]
   exact F.ks o e
  ·have e0:o=h.objs.length:=by omega
   subst e0
   have e1:nth ob0 (h.mk' c).objs h.objs.length=⟨c,newHeld h.file.classes c.toNat⟩:=nth_last
   rw [e1]
   rfl
 ·by_cases e:o<h.objs.length
  ·have e1:nth ob0 (h.mk' c).objs o=nth ob0 h.objs o:=nth_front e
   rw [e1] at hx
   exact F.kd o e x hx
  ·have e0:o=h.objs.length:=by omega
   subst e0
   have e1:nth ob0 (h.mk' c).objs h.objs.length=⟨c,newHeld h.file.classes c.toNat⟩:=nth_last
   rw [e1] at hx
   rw [newHeld_init hx]
   rfl
theorem RXA.objs {s:Nat} {X:Nat→Prop} {wx w0 w w2:World} {g:Mg} {h:Hp} {qs:List Qb} {a:Mc} {c:Cal} {vc vo vx vs v':Value} {l:List Va} (H:RXA s X wx w0 g w h qs a c vc vo vx vs l) (hg:w.grownBy w2 vo.ownBlock) {k:Int}
  (ho:w2.ownsRow w0.heap.size 3 1 v' (h.objs.length+1) (h.objs.map (fun o=>Value.int .i64 o.cls)++[.int .i64 k])) (hat:v'.ownBlock=vo.ownBlock∨∀b,v'.ownBlock=some b→w.heap.size≤b) (hl100:h.objs.length≤100) :
  RXA s X wx w0 g (w2.setCell ⟨g.hb,1,none⟩ v') (h.mk' k) qs a c vc v' vx vs l:=by
 have R:=H.rh
 obtain ⟨n,D,F⟩:=R.fld
 obtain ⟨fr,fh,fm,fc,fo,fx⟩:=H.ca.farC R
 have hrow:∀b,vo.ownBlock=some b→w0.heap.size≤b:=fun b e=>(R.obs.lt b e).1
 have n1:vo.ownBlock≠some g.r:=own_far R.obs R.run (by decide)
 have n2:vo.ownBlock≠some g.hb:=own_far R.obs R.hp (by decide)
 have n3:vo.ownBlock≠some g.mp:=map_row R.obs F.own
 have hp2:=grown_blk hg R.hp n2
 have hg2:=grown_set (w:=w2) g.hb 1 v'
 have nrh:(some g.hb:Option Nat)≠some g.r:=fun e=>blk_ne R.hp R.run (by decide) (Option.some.inj e)
 have hne:∀(vv:Value) {b e sz nn xs},w.ownsRow b e sz vv nn xs→e≠3→vv.ownBlock=none∨vv.ownBlock≠vo.ownBlock:=fun vv b e sz nn xs hr he=>row_ne hr R.obs he
 have C2:=H.ca.kept hg (fun b e=>fo b e)
 have hs2:w.heap.size≤w2.heap.size:=hg.size
 have far':∀b,X b→FarR g vc v' vx b:=fun b hx=>⟨(H.farr b hx).r,(H.farr b hx).h,(H.farr b hx).m,(H.farr b hx).c,fun e=>by
  rcases hat with q|q
  ·rw [q] at e;exact (H.farr b hx).o e
  ·have:=q b e;have:=(H.kept.blk b hx).1;have:=H.kept.size;omega,(H.farr b hx).x⟩
 refine ⟨⟨R.ownr,R.ownh,R.ownm,?_,?_,?_,?_,?_,?_,n,D,?_⟩,?_,far',H.farc,?_⟩
 ·exact Below.setCell (Below.grown R.bl hg R.bl.size hrow) R.ownh _
 ·exact grown_blk hg2 (grown_blk hg R.run n1) nrh
 ·rw [block_set hp2];rfl
 ·exact (R.out.kept hg (hne vx R.out (by decide))).kept hg2 (Or.inr (own_far (R.out.kept hg (hne vx R.out (by decide))) hp2 (by decide)))
 ·have:=ho.kept hg2 (Or.inr (own_far ho hp2 (by decide)))
  simpa [Hp.mk'] using this
 ·exact (R.calls.kept hg (hne vc R.calls (by decide))).kept hg2 (Or.inr (own_far (R.calls.kept hg (hne vc R.calls (by decide))) hp2 (by decide)))
 ·have F2:FldAt s (w2.setCell ⟨g.hb,1,none⟩ v') g.mp h n D:=⟨(F.own.kept hg (fun e=>n3 e.symm)).kept hg2 (fun e=>blk_ne hp2 hp2 (by intro;exact absurd (map_ne hp2 (F.own.kept hg (fun e=>n3 e.symm))) (fun q=>q (Option.some.inj e).symm)) rfl),F.few,F.hit,F.miss,F.new,F.ks,F.kd⟩
  exact F2.push k hl100
 ·exact C2.kept hg2 (fun b e=>by cases e;exact ⟨fh.q,fh.l,fh.s,fh.x⟩)
 ·exact (H.kept.kept hg (fun b e hx=>(H.farr b hx).o e)).kept hg2 (fun b e hx=>by cases e;exact (H.farr _ hx).h rfl)
end
section
open Go.Maps (Keyed has)
theorem lt_sz (w:World) (o:Obj):(w.alloc o).heap.size=w.heap.size+1:=by simp
theorem block_far' {w:World} {b b' i:Nat} {o:Obj} (h:w.heap[b]?=some o) (hb:b≠b') (v:Value):(w.setCell ⟨b',i,none⟩ v).heap[b]?=some o:=by rw [block_far hb];exact h
theorem own_form {w:World} {base:Nat} {e:TypeId} {size n:Nat} {v:Value} {xs:List Value} (h:w.ownsRow base e size v n xs):∃A cap,v=.slice A n cap∧n≤cap∧cap≤maxLen:=by
 rcases h.2 with ⟨rfl,rfl⟩|⟨gb,cap,cur,rfl,h2,h3,h4,h5,h6⟩
 ·exact ⟨none,0,rfl,Nat.le_refl _,by unfold maxLen;omega⟩
 ·exact ⟨_,cap,rfl,h4,h5⟩
theorem RH.heapCells {s:Nat} {w0 w:World} {g:Mg} {h:Hp} {qs:List Qb} {vc vo vx:Value} (H:RH s w0 g w h qs vc vo vx):w.cell? ⟨g.hb,0,none⟩=some (.slice g.A h.file.classes.length g.a)∧w.cell? ⟨g.hb,1,none⟩=some vo∧w.cell? ⟨g.hb,2,none⟩=some (.map (some g.mp)):=by
 refine ⟨?_,?_,?_⟩<;>(rw [cell_blk H.hp];rfl)
theorem mnew_no (s:Nat) (X:Nat→Prop) (wx w0:World) (g:Mg) (h:Hp) (qs:List Qb) (a:Mc) (c:Cal) (k:Int) (w:World) (H:RX s X wx w0 g w h qs a c) (hf:h.full=true) (hl:h.objs.length≤100) :
  Calls Tryz.prog 265 #[.pointer (some ⟨g.hb,0,none⟩),.int .i64 k] w fun e w'=>e=stopE 4 0 0∧RX s X wx w0 g w' h qs a c:=by
 have HH:Hid (RX s X wx w0 g w h qs a c):=H
 obtain ⟨vc,vo,vx,vs,l,H⟩:=H
 obtain ⟨A,cap,rfl,h1,h2⟩:=own_form H.rh.obs
 have c1:=H.rh.heapCells.2.1
 have hq:=lt_some H.rh.hp
 have hge:(100:Int)≤(h.objs.length:Int):=by unfold Hp.full at hf;have:=of_decide_eq_true hf;omega
 clear H hf
 go_enter Tryz.func265,Tryz.ntmps265
 go_wp2_with (go_at_call 146;refine (mend_any 4 _).mono ?_;rintro e w1 ⟨rfl,hw⟩;rw [hw];clear hw w1)
 exact ⟨rfl,rfl,HH.out.bl ((Bl.refl w).alloc _)⟩
theorem mnew_yes (s:Nat) (X:Nat→Prop) (wx w0:World) (g:Mg) (h:Hp) (qs:List Qb) (a:Mc) (c:Cal) (k:Int) (w:World) (H:RX s X wx w0 g w h qs a c) (hf:h.full=false) :
  Calls Tryz.prog 265 #[.pointer (some ⟨g.hb,0,none⟩),.int .i64 k] w fun e w'=>e=.returned (mvV ⟨3,(h.objs.length:Int)+1⟩)∧RX s X wx w0 g w' (h.mk' k) qs a c:=by
 obtain ⟨i0,hi0,hz0,hz1,hz2⟩:=info_parts info_int1
 have hbs:=H.size
 obtain ⟨vc,vo,vx,vs,l,H⟩:=H
 have HH:=hid (H.bl ((Bl.refl w).alloc mvZ))
 have HL:=hid (blk_new w #[.int .i64 0,.int .i64 0] 115)
 have hlt:(h.objs.length:Int)<100:=by unfold Hp.full at hf;have:=of_decide_eq_false hf;omega
 obtain ⟨A,cap,hvo,h1,h2⟩:=own_form H.rh.obs
 subst hvo
 have HX1:=H.rh.obs
 have c1:=H.rh.heapCells.2.1
 have fz:=free_blk H.rh.hp 1
 have hq:=lt_some H.rh.hp
 have HO:=hid HH.out.rh.obs
 have HP:=hid (HH.out.rh.hp)
 have HNB:Hid ((Value.slice A h.objs.length cap).ownBlock≠some w.heap.size):=fun e=>by have:=row_lt HX1 e;omega
 have HNH:=hid (own_far HO.out HP.out (by decide))
 have HFar:=hid (H.rh.farNew (Nat.le_refl _))
 have HFac:=hid (H.ca.farNew (Nat.le_refl _))
 have HFx:Hid (¬X w.heap.size):=fun hx=>by have:=(H.kept.blk _ hx).1;have:=H.kept.size;omega
 have HFg:Hid (∀b,(Value.slice A h.objs.length cap).ownBlock=some b→b≠w.heap.size):=fun b e=>by have:=row_lt HX1 e;omega
 clear H hf HX1
 go_enter Tryz.func265,Tryz.ntmps265
 go_wp2_with (at_builtin;refine wpList_append_lies _ rfl (.tmp 16) (.tmp 18) 56 rfl w0.heap.size 3 i0 _ 1 8 Tryz.underlying56 hi0 hz0 hz1 hz2 rfl (by omega) (.slice A h.objs.length cap) h.objs.length (h.objs.map (fun o=>Value.int .i64 o.cls)) (by rfl) (by exact HO.out.alloc _) ⟨w.heap.size+1,0,none⟩ 1 1 [.int .i64 k] (by rfl) (by rfl) (World.news_of_block (cs:=#[.int .i64 k]) (t:=3) (fr:=(0,0)) (by rw [←lt_sz w mvZ];exact blk_new _ _ _)) (by simp [Value.oneCell']) (by omega) (by unfold maxLen;omega) (by omega) (by simp;omega) _ rfl ?_;intro gb cp w1 hown hgrow hat hlt1;have hp2:=grown_blk hgrow ((Below.heap_alloc _ _ _ (lt_some HP.out)).trans HP.out) HNH.out;have hb2:=grown_blk hgrow ((Below.heap_alloc _ _ _ (lt_some HL.out)).trans HL.out) HNB.out;have q1:w1.cell? ⟨g.hb,1,none⟩=some (.slice A h.objs.length cap):=(cell_blk hp2).trans rfl;have z1:=free_blk hp2 1;have r0:=c0_of hb2;have r1:=c1_of hb2;have rz:=free_blk hb2;have hgl:=lt_some hp2;have hbl:=lt_some hb2;have hne:g.hb≠w.heap.size:=(by omega);have hown:=hid hown;have hgrow:=hid hgrow;have hat:=hid hat;have hp2:=hid hp2;have hb2:=hid hb2)
 refine bodyPost_ret (results_cell_row rfl _ _ w.heap.size _ _ _ _ rfl (set_two (block_far' hb2.out (fun e=>hne e.symm) _)) Tryz.underlying115 rfl info_mv) rfl ?_
 have HA:=RXA.objs (HH.out.bl ((Bl.refl _).alloc _)) hgrow.out hown.out (hat.out.elim (fun e=>Or.inl e.symm) (fun e=>Or.inr fun b hb=>Nat.le_of_eq (e.symm.trans (by simpa [Value.ownBlock] using hb)))) (by omega)
 refine ⟨rfl,RXY.x (RXY.set (Y:=fun b=>b=w.heap.size) (b:=w.heap.size) (RXY.set (Y:=fun b=>b=w.heap.size) (b:=w.heap.size) ⟨vc,_,vx,vs,l,HA,fun b hb=>?_⟩ rfl 0 _) rfl 1 _)⟩
 subst hb
 refine ⟨by simpa [World.setCell] using hbl,hbs,HFx.out,⟨HFar.out.r,HFar.out.h,HFar.out.m,HFar.out.c,fun e=>?_,HFar.out.x⟩,HFac.out⟩
 simp [Value.ownBlock] at e
 rcases hat.out with q|q
 ·exact HFg.out gb q e
 ·simp at q;omega
abbrev thrE (n:Int):Ending:=stopE 2 3 (n+1)
theorem mthrow_obj (hb:Nat) (v:Va) (hk:v.kind=3) (hv:0≤v.n) (w:World) :
  Calls Tryz.prog 207 #[.pointer (some ⟨hb,0,none⟩),mvV (im v)] w fun e w'=>e=thrE v.n∧Bl w w':=by
 have HN:Hid (isN (im v)=false):=isN_no hk hv
 have e:im v=⟨3,v.n+1⟩:=im_ref hk
 rw [e] at HN ⊢
 have HL:=hid (blk_new w #[.int .i64 3,.int .i64 (v.n+1)] 115)
 have HB:Hid (Bl w (w.alloc (mvO ⟨3,v.n+1⟩))):=(Bl.refl w).alloc _
 clear hk hv e
 go_enter Tryz.func207,Tryz.ntmps207
 go_wp2_with (go_at_call 138;refine (isNothing_any ⟨3,v.n+1⟩ _).mono ?_;rintro e w2 ⟨he,b2⟩;rw [HN.out] at he;subst he;have q0:=bl_blk b2 HL.out;have c0:=c0_of q0;have c1:=c1_of q0;have b2:=hid b2;have q0:=hid q0)
 exact ⟨rfl,rfl,HB.out.trans b2.out⟩
theorem throwNew_yes (s:Nat) (X:Nat→Prop) (wx w0:World) (g:Mg) (h:Hp) (qs:List Qb) (a:Mc) (c:Cal) (k:Int) (w:World) (H:RX s X wx w0 g w h qs a c) (hf:h.full=false) :
  Calls Tryz.prog 264 #[.pointer (some ⟨g.hb,0,none⟩),.int .i64 k] w fun e w'=>e=thrE (h.objs.length:Int)∧RX s X wx w0 g w' (h.mk' k) qs a c:=by
 have HH:=hid H
 have HF:=hid hf
 clear H hf
 have HT:Hid (∀w,Calls Tryz.prog 207 #[.pointer (some ⟨g.hb,0,none⟩),mvV ⟨3,(h.objs.length:Int)+1⟩] w fun e w'=>e=thrE (h.objs.length:Int)∧Bl w w'):=fun w=>mthrow_obj g.hb ⟨3,(h.objs.length:Int)⟩ rfl (by simp) w
 go_enter Tryz.func264,Tryz.ntmps264
 go_wp2_with (first
  | (go_at_call 265;refine (mnew_yes s X wx w0 g h qs a c k _ HH.out HF.out).mono ?_;rintro e w1 ⟨rfl,H1⟩;have H1:=hid H1)
  | (go_at_call 207;refine (HT.out _).mono ?_;rintro e w2 ⟨rfl,b2⟩;have b2:=hid b2))
 exact ⟨rfl,rfl,H1.out.bl b2.out⟩
theorem throwNew_no (s:Nat) (X:Nat→Prop) (wx w0:World) (g:Mg) (h:Hp) (qs:List Qb) (a:Mc) (c:Cal) (k:Int) (w:World) (H:RX s X wx w0 g w h qs a c) (hf:h.full=true) (hl:h.objs.length≤100) :
  Calls Tryz.prog 264 #[.pointer (some ⟨g.hb,0,none⟩),.int .i64 k] w fun e w'=>e=stopE 4 0 0∧RX s X wx w0 g w' h qs a c:=by
 have HH:=hid H
 have HF:=hid hf
 have HL:=hid hl
 clear H hf hl
 go_enter Tryz.func264,Tryz.ntmps264
 go_wp2_with (go_at_call 265;refine (mnew_no s X wx w0 g h qs a c k _ HH.out HF.out HL.out).mono ?_;rintro e w1 ⟨rfl,H1⟩;have H1:=hid H1)
 exact ⟨rfl,rfl,H1.out⟩
def raiseE (h:Hp):Ending:=if h.full=true then stopE 4 0 0 else thrE (h.objs.length:Int)
theorem raise_eqv (h:Hp) (k:Int) (ho:h.over=false):Eqv (if h.full=true then h else h.mk' k) (h.raise k):=by
 unfold Hp.raise Hp.new Hp.mk'
 by_cases hf:h.full=true
 ·rw [if_pos hf,if_pos hf,if_pos (by simp [Hp.fin,ho])];exact fin_eqv h 4
 ·rw [if_neg hf,if_neg hf,if_neg (by simp [ho])]
  exact ⟨rfl,rfl,rfl,rfl,rfl,rfl,rfl⟩
theorem throwNew_any (s:Nat) (X:Nat→Prop) (wx w0:World) (g:Mg) (h:Hp) (qs:List Qb) (a:Mc) (c:Cal) (k:Int) (w:World) (H:RX s X wx w0 g w h qs a c) (hl:h.objs.length≤100) (ho:h.over=false) :
  Calls Tryz.prog 264 #[.pointer (some ⟨g.hb,0,none⟩),.int .i64 k] w fun e w'=>e=raiseE h∧RX s X wx w0 g w' (h.raise k) qs a c:=by
 have e:=raise_eqv h k ho
 unfold raiseE
 by_cases hf:h.full=true
 ·rw [if_pos hf] at e ⊢
  exact (throwNew_no s X wx w0 g h qs a c k w H hf hl).mono fun _ _ ⟨h1,h2⟩=>⟨h1,h2.eqv e⟩
 ·have hf':h.full=false:=by simpa using hf
  rw [if_neg hf] at e ⊢
  exact (throwNew_yes s X wx w0 g h qs a c k w H hf').mono fun _ _ ⟨h1,h2⟩=>⟨h1,h2.eqv e⟩
theorem mthrow_nil (s:Nat) (X:Nat→Prop) (wx w0:World) (g:Mg) (h:Hp) (qs:List Qb) (a:Mc) (c:Cal) (v:Va) (w:World) (H:RX s X wx w0 g w h qs a c) (hl:h.objs.length≤100) (ho:h.over=false) (hk:v.kind=3) (hv:v.n=-1) :
  Calls Tryz.prog 207 #[.pointer (some ⟨g.hb,0,none⟩),mvV (im v)] w fun e w'=>e=raiseE h∧RX s X wx w0 g w' (h.raise 1) qs a c:=by
 have HN:Hid (isN (im v)=true):=isN_yes hk hv
 have e:im v=⟨3,0⟩:=by rw [im_ref hk,hv];rfl
 rw [e] at HN ⊢
 have HB:Hid (Bl w (w.alloc (mvO ⟨3,0⟩))):=(Bl.refl w).alloc _
 have HH:=hid H
 have HL:=hid (And.intro hl ho)
 obtain ⟨E,hE⟩:∃E,raiseE h=E:=⟨_,rfl⟩
 have HE:=hid hE
 rw [hE]
 have HX:Hid (∃ch,E=.panicked ch):=by
  rw [←hE];unfold raiseE;split<;>exact ⟨_,rfl⟩
 clear hk hv e H hl ho hE
 obtain ⟨ch,rfl⟩:=HX.out
 go_enter Tryz.func207,Tryz.ntmps207
 go_wp2_with (first
  | (go_at_call 138;refine (isNothing_any ⟨3,0⟩ _).mono ?_;rintro e w2 ⟨he,b2⟩;rw [HN.out] at he;subst he;have b2:=hid b2)
  | (go_at_call 264;refine (throwNew_any s X wx w0 g h qs a c 1 _ (HH.out.bl (HB.out.trans b2.out)) HL.out.1 HL.out.2).mono ?_;rintro e w3 ⟨he,H3⟩;rw [HE.out] at he;subst he;have H3:=hid H3))
 exact ⟨rfl,rfl,H3.out⟩
end
structure LBox (w:World) (b:Nat) (l:List Va):Prop where
 blk:w.heap[b]?=some (.cells (vaCells l).toArray 115 (0,0))
theorem LBox.c0 {w:World} {b:Nat} {l:List Va} (h:LBox w b l) {i:Nat} (hi:i<l.length):w.cell? ⟨b,i*2,none⟩=some (.int .i64 (nth va0 l i).kind):=by
 rw [cell_blk h.blk];simpa using (va_cells l i hi).1
theorem LBox.c1 {w:World} {b:Nat} {l:List Va} (h:LBox w b l) {i:Nat} (hi:i<l.length):w.cell? ⟨b,i*2+1,none⟩=some (.int .i64 (nth va0 l i).n):=by
 rw [cell_blk h.blk];simpa using (va_cells l i hi).2
theorem LBox.bl {w w':World} {b:Nat} {l:List Va} (h:LBox w b l) (hb:Bl w w'):LBox w' b l:=⟨bl_blk hb h.blk⟩
theorem LBox.set {w:World} {b:Nat} {l:List Va} (h:LBox w b l) {i:Nat} (hi:i<l.length) (v:Va):LBox ((w.setCell ⟨b,i*2,none⟩ (.int .i64 v.kind)).setCell ⟨b,i*2+1,none⟩ (.int .i64 v.n)) b (l.set i v) :=
 ⟨by rw [block_set (block_set h.blk _),vaCells_set l i v hi];simp⟩
theorem read_num (lb lc n:Nat) (l:List Va) (k:Int) (w:World) (B:LBox w lb l) (hn:n<l.length) (hl:l.length≤1000) (hk:(nth va0 l n).kind=k) (h2:k≠2) :
  Calls Tryz.prog 199 #[.slice (some ⟨lb,0,none⟩) l.length lc,.int .i64 (n:Int),.int .i64 k] w fun e w'=>e=.returned (mvV (nth va0 l n))∧Bl w w':=by
 have x0:=B.c0 hn
 have x1:=B.c1 hn
 have hlt:=lt_some B.blk
 have hn0:(0:Int)≤(n:Int):=by omega
 have hn1:(n:Int)<(l.length:Int):=by omega
 have hb2:(k==2)=false:=by simpa using h2
 have hd2:decide (k=2)=false:=decide_eq_false h2
 have HK:=hid hk
 have HL:=hid (blk_new w #[.int .i64 0,.int .i64 0] 115)
 have HB:Hid (Bl w (w.alloc mvZ)):=(Bl.refl w).alloc _
 generalize nth va0 l n=u at *
 clear B hk h2
 go_enter Tryz.func199,Tryz.ntmps199
 go_wp2_with (go_at_call 261;refine (mustbe_yes u k _ HK.out).mono ?_;rintro e w2 ⟨rfl,b2⟩;have q0:=bl_blk b2 HL.out;have c4:=c0_of q0;have c5:=c1_of q0;have fz:=free_blk q0;have hl0:=lt_some q0;replace b2:=hid b2;replace q0:=hid q0)
 refine bodyPost_ret (results_cell_row rfl _ _ w.heap.size _ _ _ _ rfl ((Below.heap_alloc _ _ _ (lt_some (set_two q0.out))).trans (set_two q0.out)) Tryz.underlying115 rfl info_mv) rfl ?_
 exact ⟨rfl,(bl_two (HB.out.trans b2.out) (Nat.le_refl _) _ _).alloc _⟩
theorem read_kind (lb lc n:Nat) (l:List Va) (k:Int) (w:World) (B:LBox w lb l) (hn:n<l.length) (hl:l.length≤1000) (hk:(nth va0 l n).kind≠k) :
  Calls Tryz.prog 199 #[.slice (some ⟨lb,0,none⟩) l.length lc,.int .i64 (n:Int),.int .i64 k] w fun e w'=>e=stopE 6 0 0∧Bl w w':=by
 have x0:=B.c0 hn
 have x1:=B.c1 hn
 have hlt:=lt_some B.blk
 have hn0:(0:Int)≤(n:Int):=by omega
 have hn1:(n:Int)<(l.length:Int):=by omega
 have HK:=hid hk
 have HB:Hid (Bl w (w.alloc mvZ)):=(Bl.refl w).alloc _
 generalize nth va0 l n=u at *
 clear B hk
 go_enter Tryz.func199,Tryz.ntmps199
 go_wp2_with (go_at_call 261;refine (mustbe_no u k _ HK.out).mono ?_;rintro e w2 ⟨rfl,b2⟩;replace b2:=hid b2)
 exact ⟨rfl,rfl,HB.out.trans b2.out⟩
theorem write_num (lb lc n:Nat) (l:List Va) (v:Va) (w:World) (B:LBox w lb l) (hn:n<l.length) (hl:l.length≤1000) (hk:v.kind≠2) :
  Calls Tryz.prog 132 #[.slice (some ⟨lb,0,none⟩) l.length lc,.int .i64 (n:Int),mvV v] w fun e w'=>e=.returned (.tuple #[])∧LBox w' lb (l.set n v)∧w.grownBy w' (some lb):=by
 have x0:=B.c0 hn
 have x1:=B.c1 hn
 have fz:=free_blk B.blk
 have hlt:=lt_some B.blk
 have hn0:(0:Int)≤(n:Int):=by omega
 have hn1:(n:Int)<(l.length:Int):=by omega
 have hb2:(v.kind==2)=false:=by simpa using hk
 have hd2:decide (v.kind=2)=false:=decide_eq_false hk
 have HB:=hid B
 have hne:lb≠w.heap.size:=by omega
 clear B hk
 go_enter Tryz.func132,Tryz.ntmps132
 go_wp2
 go_end0
 exact ⟨rfl,(HB.out.set hn v).bl ((Bl.refl _).alloc _),grown_trans (grown_trans (grown_set lb _ _) (grown_set lb _ _)) (World.grownBy_alloc _ _ _)⟩
end Go.Proofs.YtgiiapenmjollabGreat
