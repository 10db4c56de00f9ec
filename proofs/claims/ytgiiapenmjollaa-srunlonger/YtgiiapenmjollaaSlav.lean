import Derived.Test.YtgiiapenmjollaaSlau
namespace Go.Proofs.Ytgiiapenmjollaa
set_option linter.all false
set_option maxHeartbeats 40000000
open Go.RowKit
section
open Go.Maps (Keyed has)
structure AtI (w:World) (a:Mc) (c:Cal) (i:In) (cb co:Nat) (Q:Option Addr) (q n:Nat):Prop where
 C:a.C=some ⟨cb,co,none⟩
 pc:c.pc=n
 lt:n<c.m.code.length
 len:c.m.code.length≤maxLen
 c0:w.cell? ⟨cb,co+n*6,none⟩=some (.int .i64 i.op)
 c1:w.cell? ⟨cb,co+n*6+1,none⟩=some (.int .i64 i.a)
 c2:w.cell? ⟨cb,co+n*6+2,none⟩=some (.int .i64 i.b)
 c3:w.cell? ⟨cb,co+n*6+3,none⟩=some (.int .i64 i.c)
 c4:w.cell? ⟨cb,co+n*6+4,none⟩=some (.int .i64 i.n)
 c5:w.cell? ⟨cb,co+n*6+5,none⟩=some (.slice Q i.args.length q)
theorem AtI.bl {w w':World} {a:Mc} {c:Cal} {i:In} {cb co:Nat} {Q:Option Addr} {q n:Nat} (H:AtI w a c i cb co Q q n) (hb:Bl w w'):AtI w' a c i cb co Q q n:=⟨H.C,H.pc,H.lt,H.len,hb.cell H.c0,hb.cell H.c1,hb.cell H.c2,hb.cell H.c3,hb.cell H.c4,hb.cell H.c5⟩
theorem RX.ati {s:Nat} {X:Nat→Prop} {wx w0 w:World} {g:Mg} {h:Hp} {qs:List Nat} {a:Mc} {c:Cal} (H:RX s X wx w0 g w h qs a c) (hp:0≤c.pc∧c.pc<c.m.code.length):∃cb co Q q,AtI w a c (nth in0 c.m.code c.pc.toNat) cb co Q q c.pc.toNat:=by
 obtain ⟨vc,vo,vx,vs,l,H⟩:=H
 have hm:=H.ca.me.2.1.bl H.rh.bl
 rcases hm.2 with h0|⟨cb,co,hC,hi⟩
 ·omega
 obtain ⟨k0,k1,k2,k3,k4,-,Q,q,k5,-⟩:=hi c.pc.toNat (by omega)
 exact ⟨cb,co,Q,q,hC,by omega,by omega,hm.1,k0,k1,k2,k3,k4,k5⟩
theorem does_pc (h:Hp) (c:Cal) (i:In):(doesP h c i).c.pc=c.pc:=by
 have hc:=fun k=>(cut_m c k).2.1
 unfold doesP
 split
 ·rfl
 split
 ·exact hc 1
 split
 ·exact hc 1
 split
 ·exact hc 1
 split
 ·unfold loadP;dsimp only;split<;>rfl
 split
 ·unfold storeP;dsimp only;split
  ·exact hc 1
  ·exact hc 1
 split
 ·exact hc 1
 split
 ·unfold dupP;dsimp only;split
  ·exact hc 1
  ·exact hc 1
 split
 ·exact hc 1
 split
 ·exact hc 2
 ·unfold givesP;dsimp only;split
  ·exact hc _
  ·exact hc _
theorem does_nx (h:Hp) (c:Cal) (i:In) (h1:i.op≠11) (h2:i.op≠12) (h3:i.op≠13):(doesP h c i).nx=c.pc+1:=by
 unfold doesP
 rw [if_neg h1,if_neg h2,if_neg h3]
 split
 ·rfl
 split
 ·unfold loadP;dsimp only;split<;>rfl
 split
 ·rfl
 split
 ·rfl
 split
 ·unfold dupP;dsimp only;split<;>rfl
 split
 ·rfl
 split
 ·rfl
 ·unfold givesP;dsimp only;split<;>rfl
structure DoQ (X:Nat→Prop) (wx w0:World) (g:Mg) (qs:List Nat) (a:Mc) (c:Cal) (d:Did) (e:Ending) (w':World):Prop where
 how:e=DidE d
 stop:d.h.stops=true→RS 0 X wx w0 g w' d.h qs a c
 go:d.h.stops=false→RX 0 X wx w0 g w' d.h qs a { d.c with pc:=d.nx }
theorem RX.setpc {s:Nat} {X:Nat→Prop} {wx w0 w:World} {g:Mg} {h:Hp} {qs:List Nat} {a:Mc} {c:Cal} (H:RX s X wx w0 g w h qs a c) (n:Int):RX s X wx w0 g (w.setCell ⟨a.q,10,none⟩ (.int .i64 n)) h qs a { c with pc:=n }:=by
 obtain ⟨vc,vo,vx,vs,l,H⟩:=H
 exact ⟨vc,vo,vx,vs,l,H.setq rfl rfl rfl H.ca.stk (fun b e=>⟨fun q=>H.ca.apart (by rw [←q];exact e),fun hx=>(H.farc b hx).s e⟩) H.ca.kinds⟩
theorem RX.c10 {s:Nat} {X:Nat→Prop} {wx w0 w:World} {g:Mg} {h:Hp} {qs:List Nat} {a:Mc} {c:Cal} (H:RX s X wx w0 g w h qs a c):w.cell? ⟨a.q,10,none⟩=some (.int .i64 c.pc)∧(∀i,w.frozen? ⟨a.q,i,none⟩=false)∧w.cell? ⟨a.q,8,none⟩=some (.slice a.C c.m.code.length a.c):=by
 obtain ⟨vc,vo,vx,vs,l,H⟩:=H
 exact ⟨H.ca.cells.c10,H.ca.free,H.ca.cells.c8⟩
set_option maxRecDepth 100000 in
theorem do_end (X:Nat→Prop) (wx w0:World) (g:Mg) (h:Hp) (qs:List Nat) (a:Mc) (c:Cal) (w:World) (H:RX 1 X wx w0 g w h qs a c) (hs:h.stops=false) (hp:(c.m.code.length:Int)≤c.pc) (hcm:c.m.code.length≤maxLen) :
  Calls Try.prog 66 #[.pointer (some ⟨a.q,0,none⟩)] w fun e w'=>e=stopE 6 0 0∧RX 1 X wx w0 g w' h qs a c:=by
 have HH:=hid H
 obtain ⟨c10,fz,c8⟩:=H.c10
 have hq:=H.qlt
 clear H
 go_enter Try.func66,Try.ntmps66
 go_wp2
 go_quiet (fail)
 go_wp2_with (go_at_call 87;refine (mstuck_any _).mono ?_;rintro e w1 ⟨rfl,hw⟩;rw [hw];clear hw w1)
 exact ⟨rfl,rfl,HH.out.bl (bl_drewN (Bl.refl w) _)⟩
theorem ins_new (w:World) (b:Nat) (hb:b=w.heap.size) (T:TypeId):(w.alloc (.cells #[.int .i64 0,.int .i64 0,.int .i64 0,.int .i64 0,.int .i64 0,.slice none 0 0] T)).cell? ⟨b,0,none⟩=some (.int .i64 0)∧(w.alloc (.cells #[.int .i64 0,.int .i64 0,.int .i64 0,.int .i64 0,.int .i64 0,.slice none 0 0] T)).cell? ⟨b,1,none⟩=some (.int .i64 0)∧(w.alloc (.cells #[.int .i64 0,.int .i64 0,.int .i64 0,.int .i64 0,.int .i64 0,.slice none 0 0] T)).cell? ⟨b,2,none⟩=some (.int .i64 0)∧(w.alloc (.cells #[.int .i64 0,.int .i64 0,.int .i64 0,.int .i64 0,.int .i64 0,.slice none 0 0] T)).cell? ⟨b,3,none⟩=some (.int .i64 0)∧(w.alloc (.cells #[.int .i64 0,.int .i64 0,.int .i64 0,.int .i64 0,.int .i64 0,.slice none 0 0] T)).cell? ⟨b,4,none⟩=some (.int .i64 0)∧(w.alloc (.cells #[.int .i64 0,.int .i64 0,.int .i64 0,.int .i64 0,.int .i64 0,.slice none 0 0] T)).cell? ⟨b,5,none⟩=some (.slice none 0 0)∧∀i,(w.alloc (.cells #[.int .i64 0,.int .i64 0,.int .i64 0,.int .i64 0,.int .i64 0,.slice none 0 0] T)).frozen? ⟨b,i,none⟩=false:=by
 subst hb
 exact ⟨cell_of_new rfl,cell_of_new rfl,cell_of_new rfl,cell_of_new rfl,cell_of_new rfl,cell_of_new rfl,fun i=>by unfold World.frozen?;rw [blk_new];simp⟩
theorem cs_oth (w:World) (b:Nat) {o o':Nat} (v:Value) (h:o≠o'):(w.setCell ⟨b,o,none⟩ v).cell? ⟨b,o',none⟩=w.cell? ⟨b,o',none⟩:=World.cell?_setCell_other w _ _ _ (by intro e;injection e with _ e _;exact h e)
theorem ins_box {w:World} {b:Nat} {u0 u1 u2 u3 u4 u5:Value} (h0:w.cell? ⟨b,0,none⟩=some u0) (h1:w.cell? ⟨b,1,none⟩=some u1) (h2:w.cell? ⟨b,2,none⟩=some u2) (h3:w.cell? ⟨b,3,none⟩=some u3) (h4:w.cell? ⟨b,4,none⟩=some u4) (h5:w.cell? ⟨b,5,none⟩=some u5) (hf:∀i,w.frozen? ⟨b,i,none⟩=false) (y0 y1 y2 y3 y4 y5:Value):((((((w.setCell ⟨b,0,none⟩ y0).setCell ⟨b,1,none⟩ y1).setCell ⟨b,2,none⟩ y2).setCell ⟨b,3,none⟩ y3).setCell ⟨b,4,none⟩ y4).setCell ⟨b,5,none⟩ y5).cell? ⟨b,0,none⟩=some y0∧((((((w.setCell ⟨b,0,none⟩ y0).setCell ⟨b,1,none⟩ y1).setCell ⟨b,2,none⟩ y2).setCell ⟨b,3,none⟩ y3).setCell ⟨b,4,none⟩ y4).setCell ⟨b,5,none⟩ y5).cell? ⟨b,1,none⟩=some y1∧((((((w.setCell ⟨b,0,none⟩ y0).setCell ⟨b,1,none⟩ y1).setCell ⟨b,2,none⟩ y2).setCell ⟨b,3,none⟩ y3).setCell ⟨b,4,none⟩ y4).setCell ⟨b,5,none⟩ y5).cell? ⟨b,2,none⟩=some y2∧((((((w.setCell ⟨b,0,none⟩ y0).setCell ⟨b,1,none⟩ y1).setCell ⟨b,2,none⟩ y2).setCell ⟨b,3,none⟩ y3).setCell ⟨b,4,none⟩ y4).setCell ⟨b,5,none⟩ y5).cell? ⟨b,3,none⟩=some y3∧((((((w.setCell ⟨b,0,none⟩ y0).setCell ⟨b,1,none⟩ y1).setCell ⟨b,2,none⟩ y2).setCell ⟨b,3,none⟩ y3).setCell ⟨b,4,none⟩ y4).setCell ⟨b,5,none⟩ y5).cell? ⟨b,4,none⟩=some y4∧((((((w.setCell ⟨b,0,none⟩ y0).setCell ⟨b,1,none⟩ y1).setCell ⟨b,2,none⟩ y2).setCell ⟨b,3,none⟩ y3).setCell ⟨b,4,none⟩ y4).setCell ⟨b,5,none⟩ y5).cell? ⟨b,5,none⟩=some y5∧∀i,((((((w.setCell ⟨b,0,none⟩ y0).setCell ⟨b,1,none⟩ y1).setCell ⟨b,2,none⟩ y2).setCell ⟨b,3,none⟩ y3).setCell ⟨b,4,none⟩ y4).setCell ⟨b,5,none⟩ y5).frozen? ⟨b,i,none⟩=false:=by
 refine ⟨?_,?_,?_,?_,?_,?_,fun i=>by simp only [World.frozen?_setCell];exact hf i⟩
 ·rw [cs_oth _ _ _ (by decide)];rw [cs_oth _ _ _ (by decide)];rw [cs_oth _ _ _ (by decide)];rw [cs_oth _ _ _ (by decide)];rw [cs_oth _ _ _ (by decide)];refine World.cell?_setCell_same _ _ _ (u:=u0) ?_;exact h0
 ·rw [cs_oth _ _ _ (by decide)];rw [cs_oth _ _ _ (by decide)];rw [cs_oth _ _ _ (by decide)];rw [cs_oth _ _ _ (by decide)];refine World.cell?_setCell_same _ _ _ (u:=u1) ?_;rw [cs_oth _ _ _ (by decide)];exact h1
 ·rw [cs_oth _ _ _ (by decide)];rw [cs_oth _ _ _ (by decide)];rw [cs_oth _ _ _ (by decide)];refine World.cell?_setCell_same _ _ _ (u:=u2) ?_;rw [cs_oth _ _ _ (by decide)];rw [cs_oth _ _ _ (by decide)];exact h2
 ·rw [cs_oth _ _ _ (by decide)];rw [cs_oth _ _ _ (by decide)];refine World.cell?_setCell_same _ _ _ (u:=u3) ?_;rw [cs_oth _ _ _ (by decide)];rw [cs_oth _ _ _ (by decide)];rw [cs_oth _ _ _ (by decide)];exact h3
 ·rw [cs_oth _ _ _ (by decide)];refine World.cell?_setCell_same _ _ _ (u:=u4) ?_;rw [cs_oth _ _ _ (by decide)];rw [cs_oth _ _ _ (by decide)];rw [cs_oth _ _ _ (by decide)];rw [cs_oth _ _ _ (by decide)];exact h4
 ·refine World.cell?_setCell_same _ _ _ (u:=u5) ?_;rw [cs_oth _ _ _ (by decide)];rw [cs_oth _ _ _ (by decide)];rw [cs_oth _ _ _ (by decide)];rw [cs_oth _ _ _ (by decide)];rw [cs_oth _ _ _ (by decide)];exact h5
theorem bl_six {w v:World} (h:Bl w v) {b:Nat} (hb:w.heap.size≤b) (y0 y1 y2 y3 y4 y5:Value):Bl w ((((((v.setCell ⟨b,0,none⟩ y0).setCell ⟨b,1,none⟩ y1).setCell ⟨b,2,none⟩ y2).setCell ⟨b,3,none⟩ y3).setCell ⟨b,4,none⟩ y4).setCell ⟨b,5,none⟩ y5):=((((((h.setCell (p:=⟨b,0,none⟩) hb y0).setCell (p:=⟨b,1,none⟩) hb y1).setCell (p:=⟨b,2,none⟩) hb y2).setCell (p:=⟨b,3,none⟩) hb y3).setCell (p:=⟨b,4,none⟩) hb y4).setCell (p:=⟨b,5,none⟩) hb y5)
theorem dpm {s:Nat} {X:Nat→Prop} {wx w0 w:World} {g:Mg} {h:Hp} {qs:List Nat} {a:Mc} {c:Cal} {op ia ib ic ii:Int} {args:List Int} {cb co:Nat} {Q:Option Addr} {q n:Nat} (H:RX s X wx w0 g w h qs a c) (A:AtI w a c ⟨op,ia,ib,ic,ii,args⟩ cb co Q q n) :
  w.cell? ⟨a.q,10,none⟩=some (.int .i64 (n:Int))∧(∀i,w.frozen? ⟨a.q,i,none⟩=false)∧w.cell? ⟨a.q,8,none⟩=some (.slice (some ⟨cb,co,none⟩) c.m.code.length a.c)∧a.q<w.heap.size∧c.m.code.length≤2 ^ 63-1∧n<c.m.code.length∧Hid (c.pc=n)∧(0:Int)≤(n:Int)∧(n:Int)<(c.m.code.length:Int)∧decide ((c.m.code.length:Int)≤(n:Int))=false
   ∧ Hid (∀w',Bl w w'→w'.cell? ⟨a.q,8,none⟩=some (.slice (some ⟨cb,co,none⟩) c.m.code.length a.c)∧w'.cell? ⟨a.q,10,none⟩=some (.int .i64 (n:Int))∧w'.cell? ⟨cb,co+n*6,none⟩=some (.int .i64 op)∧w'.cell? ⟨cb,co+n*6+1,none⟩=some (.int .i64 ia)∧w'.cell? ⟨cb,co+n*6+2,none⟩=some (.int .i64 ib)∧w'.cell? ⟨cb,co+n*6+3,none⟩=some (.int .i64 ic)∧w'.cell? ⟨cb,co+n*6+4,none⟩=some (.int .i64 ii)∧w'.cell? ⟨cb,co+n*6+5,none⟩=some (.slice Q args.length q))∧(∀i,w.frozen? ⟨w.heap.size,i,none⟩=false)∧∀i n,(w.drewN n).frozen? ⟨w.heap.size,i,none⟩=false:=by
 obtain ⟨c10,fz,c8⟩:=H.c10
 have hcl:=A.len
 have hlt:=A.lt
 rw [A.pc] at c10
 rw [A.C] at c8
 unfold maxLen at hcl
 have fzn:∀i,w.frozen? ⟨w.heap.size,i,none⟩=false:=fun i=>by simp [World.frozen?]
 exact ⟨c10,fz,c8,H.qlt,hcl,hlt,A.pc,by omega,by omega,by simpa using hlt,fun w' hb=>⟨hb.cell c8,hb.cell c10,hb.cell A.c0,hb.cell A.c1,hb.cell A.c2,hb.cell A.c3,hb.cell A.c4,hb.cell A.c5⟩,fzn,fun i n=>by rw [World.frozen?_drewN];exact fzn i⟩
theorem insN (w:World) (m B:Nat) (hB:B=w.heap.size):Hid (Bl w ((w.drewN m).alloc (.cells #[.int .i64 0,.int .i64 0,.int .i64 0,.int .i64 0,.int .i64 0,.slice none 0 0] 51)))∧((w.drewN m).alloc (.cells #[.int .i64 0,.int .i64 0,.int .i64 0,.int .i64 0,.int .i64 0,.slice none 0 0] 51)).cell? ⟨B,0,none⟩=some (.int .i64 0)∧((w.drewN m).alloc (.cells #[.int .i64 0,.int .i64 0,.int .i64 0,.int .i64 0,.int .i64 0,.slice none 0 0] 51)).cell? ⟨B,1,none⟩=some (.int .i64 0)∧((w.drewN m).alloc (.cells #[.int .i64 0,.int .i64 0,.int .i64 0,.int .i64 0,.int .i64 0,.slice none 0 0] 51)).cell? ⟨B,2,none⟩=some (.int .i64 0)∧((w.drewN m).alloc (.cells #[.int .i64 0,.int .i64 0,.int .i64 0,.int .i64 0,.int .i64 0,.slice none 0 0] 51)).cell? ⟨B,3,none⟩=some (.int .i64 0)∧((w.drewN m).alloc (.cells #[.int .i64 0,.int .i64 0,.int .i64 0,.int .i64 0,.int .i64 0,.slice none 0 0] 51)).cell? ⟨B,4,none⟩=some (.int .i64 0)∧((w.drewN m).alloc (.cells #[.int .i64 0,.int .i64 0,.int .i64 0,.int .i64 0,.int .i64 0,.slice none 0 0] 51)).cell? ⟨B,5,none⟩=some (.slice none 0 0)
  ∧ (∀i,((w.drewN m).alloc (.cells #[.int .i64 0,.int .i64 0,.int .i64 0,.int .i64 0,.int .i64 0,.slice none 0 0] 51)).frozen? ⟨B,i,none⟩=false)∧Hid (((w.drewN m).alloc (.cells #[.int .i64 0,.int .i64 0,.int .i64 0,.int .i64 0,.int .i64 0,.slice none 0 0] 51)).heap[B]?=some (.cells #[.int .i64 0,.int .i64 0,.int .i64 0,.int .i64 0,.int .i64 0,.slice none 0 0] 51 (0,0)))∧Hid (w.heap.size≤B):=by
 subst hB
 obtain ⟨v0,v1,v2,v3,v4,v5,fzV⟩:=ins_new (w.drewN m) w.heap.size rfl 51
 exact ⟨(bl_drewN (Bl.refl w) _).alloc _,v0,v1,v2,v3,v4,v5,fzV,blk_new _ _ _,Nat.le_refl _⟩
theorem set_six {w:World} {b:Nat} {t:TypeId} (q:w.heap[b]?=some (.cells #[.int .i64 0,.int .i64 0,.int .i64 0,.int .i64 0,.int .i64 0,.slice none 0 0] t (0,0))) (y0 y1 y2 y3 y4 y5:Value):((((((w.setCell ⟨b,0,none⟩ y0).setCell ⟨b,1,none⟩ y1).setCell ⟨b,2,none⟩ y2).setCell ⟨b,3,none⟩ y3).setCell ⟨b,4,none⟩ y4).setCell ⟨b,5,none⟩ y5).heap[b]?=some (.cells #[y0,y1,y2,y3,y4,y5] t (0,0)):=by
 rw [block_set (block_set (block_set (block_set (block_set (block_set q _) _) _) _) _) _];rfl
theorem insS {w v:World} {b:Nat} {u0 u1 u2 u3 u4 u5:Value} (h:Hid (Bl w v)) (hb:Hid (w.heap.size≤b)) (h0:v.cell? ⟨b,0,none⟩=some u0) (h1:v.cell? ⟨b,1,none⟩=some u1) (h2:v.cell? ⟨b,2,none⟩=some u2) (h3:v.cell? ⟨b,3,none⟩=some u3) (h4:v.cell? ⟨b,4,none⟩=some u4) (h5:v.cell? ⟨b,5,none⟩=some u5) (hf:∀i,v.frozen? ⟨b,i,none⟩=false) (qB:Hid (v.heap[b]?=some (.cells #[.int .i64 0,.int .i64 0,.int .i64 0,.int .i64 0,.int .i64 0,.slice none 0 0] 51 (0,0)))) (y0 y1 y2 y3 y4 y5:Value) :
  Hid (Bl w ((((((v.setCell ⟨b,0,none⟩ y0).setCell ⟨b,1,none⟩ y1).setCell ⟨b,2,none⟩ y2).setCell ⟨b,3,none⟩ y3).setCell ⟨b,4,none⟩ y4).setCell ⟨b,5,none⟩ y5))∧Hid (((((((v.setCell ⟨b,0,none⟩ y0).setCell ⟨b,1,none⟩ y1).setCell ⟨b,2,none⟩ y2).setCell ⟨b,3,none⟩ y3).setCell ⟨b,4,none⟩ y4).setCell ⟨b,5,none⟩ y5).cell? ⟨b,0,none⟩=some y0∧((((((v.setCell ⟨b,0,none⟩ y0).setCell ⟨b,1,none⟩ y1).setCell ⟨b,2,none⟩ y2).setCell ⟨b,3,none⟩ y3).setCell ⟨b,4,none⟩ y4).setCell ⟨b,5,none⟩ y5).cell? ⟨b,1,none⟩=some y1∧((((((v.setCell ⟨b,0,none⟩ y0).setCell ⟨b,1,none⟩ y1).setCell ⟨b,2,none⟩ y2).setCell ⟨b,3,none⟩ y3).setCell ⟨b,4,none⟩ y4).setCell ⟨b,5,none⟩ y5).cell? ⟨b,2,none⟩=some y2∧((((((v.setCell ⟨b,0,none⟩ y0).setCell ⟨b,1,none⟩ y1).setCell ⟨b,2,none⟩ y2).setCell ⟨b,3,none⟩ y3).setCell ⟨b,4,none⟩ y4).setCell ⟨b,5,none⟩ y5).cell? ⟨b,3,none⟩=some y3∧((((((v.setCell ⟨b,0,none⟩ y0).setCell ⟨b,1,none⟩ y1).setCell ⟨b,2,none⟩ y2).setCell ⟨b,3,none⟩ y3).setCell ⟨b,4,none⟩ y4).setCell ⟨b,5,none⟩ y5).cell? ⟨b,4,none⟩=some y4∧((((((v.setCell ⟨b,0,none⟩ y0).setCell ⟨b,1,none⟩ y1).setCell ⟨b,2,none⟩ y2).setCell ⟨b,3,none⟩ y3).setCell ⟨b,4,none⟩ y4).setCell ⟨b,5,none⟩ y5).cell? ⟨b,5,none⟩=some y5∧∀i,((((((v.setCell ⟨b,0,none⟩ y0).setCell ⟨b,1,none⟩ y1).setCell ⟨b,2,none⟩ y2).setCell ⟨b,3,none⟩ y3).setCell ⟨b,4,none⟩ y4).setCell ⟨b,5,none⟩ y5).frozen? ⟨b,i,none⟩=false)∧Hid (((((((v.setCell ⟨b,0,none⟩ y0).setCell ⟨b,1,none⟩ y1).setCell ⟨b,2,none⟩ y2).setCell ⟨b,3,none⟩ y3).setCell ⟨b,4,none⟩ y4).setCell ⟨b,5,none⟩ y5).heap[b]?=some (.cells #[y0,y1,y2,y3,y4,y5] 51 (0,0))) :=
 ⟨bl_six h.out hb.out _ _ _ _ _ _,ins_box h0 h1 h2 h3 h4 h5 hf _ _ _ _ _ _,set_six qB.out _ _ _ _ _ _⟩
end
set_option maxRecDepth 100000 in
theorem do_work (X:Nat→Prop) (wx w0:World) (g:Mg) (h:Hp) (qs:List Nat) (a:Mc) (c:Cal) (w:World) (H:RX 1 X wx w0 g w h qs a c) (hs:h.stops=false) (op ia ib ic ii:Int) (args:List Int) (cb co:Nat) (Q:Option Addr) (q n:Nat) (A:AtI w a c ⟨op,ia,ib,ic,ii,args⟩ cb co Q q n) (h1:op≠11) (h2:op≠12) (h3:op≠13) (h4:op≠19) (h5:op≠20)
  (hw:∀w',Bl w w'→Calls Try.prog 94 #[.pointer (some ⟨a.q,0,none⟩),.agg #[.int .i64 op,.int .i64 ia,.int .i64 ib,.int .i64 ic,.int .i64 ii,.slice Q args.length q]] w' fun e w''=>DidQ X wx w0 g qs a c (doesP h c ⟨op,ia,ib,ic,ii,args⟩) e w'') :
  Calls Try.prog 66 #[.pointer (some ⟨a.q,0,none⟩)] w fun e w'=>DoQ X wx w0 g qs a c (doesP h c ⟨op,ia,ib,ic,ii,args⟩) e w':=by
 have HH:=hid H
 obtain ⟨c10,fz,c8,hq,hcl,hlt,HAP,hn0,hn1,hd0,HT8,fzn,fzm⟩:=dpm H A
 have hnx:=does_nx h c ⟨op,ia,ib,ic,ii,args⟩ h1 h2 h3
 have hpc:=does_pc h c ⟨op,ia,ib,ic,ii,args⟩
 rw [A.pc] at hnx hpc
 have e1:(op==11)=false:=by simpa using h1
 have e2:(op==12)=false:=by simpa using h2
 have e3:(op==13)=false:=by simpa using h3
 have e4:(op==19)=false:=by simpa using h4
 have e5:(op==20)=false:=by simpa using h5
 have HW:=hid hw
 have HNX:=hid hnx
 have HPC:=hid hpc
 have HDQ:Hid (∀e w',DidQ X wx w0 g qs a c (doesP h c ⟨op,ia,ib,ic,ii,args⟩) e w'→(doesP h c ⟨op,ia,ib,ic,ii,args⟩).h.stops=true→DoQ X wx w0 g qs a c (doesP h c ⟨op,ia,ib,ic,ii,args⟩) e w'):=fun e w' q hst=>⟨q.how,q.stop,fun z=>by rw [hst] at z;exact absurd z (by decide)⟩
 have HDG:Hid (∀w',RX 0 X wx w0 g w' (doesP h c ⟨op,ia,ib,ic,ii,args⟩).h qs a { (doesP h c ⟨op,ia,ib,ic,ii,args⟩).c with pc:=(n:Int)+1 }→(doesP h c ⟨op,ia,ib,ic,ii,args⟩).h.stops=false→DoQ X wx w0 g qs a c (doesP h c ⟨op,ia,ib,ic,ii,args⟩) (DidE (doesP h c ⟨op,ia,ib,ic,ii,args⟩)) w'):=fun w' H hst=>⟨rfl,fun z=>by rw [hst] at z;exact absurd z (by decide),fun _=>hnx▸H⟩
 generalize doesP h c ⟨op,ia,ib,ic,ii,args⟩=d at *
 cases hst:d.h.stops with
 | true =>
  have HST:=hid hst
  rcases DidE_cases d with hE|⟨ch,hE⟩
  ·exfalso
   unfold DidE at hE
   unfold Hp.stops at hst
   rw [Bool.or_eq_true] at hst
   by_cases hov:d.h.over=true
   ·rw [if_pos hov] at hE;cases hE
   ·rw [if_neg hov,if_pos (by rcases hst with z|z;exact absurd z hov;exact of_decide_eq_true z)] at hE;cases hE
  have HE:=hid hE
  clear H hs A hw hnx hpc hst hE h1 h2 h3 h4 h5
  go_enter Try.func66,Try.ntmps66
  go_wp2
  go_quiet (fail)
  go_wp2
  refine wp_region_held_drew (S:=fun w'=>w'.cell? ⟨a.q,8,none⟩=some (.slice (some ⟨cb,co,none⟩) c.m.code.length a.c)∧w'.cell? ⟨a.q,10,none⟩=some (.int .i64 (n:Int))∧w'.cell? ⟨cb,co+n*6,none⟩=some (.int .i64 op)∧w'.cell? ⟨cb,co+n*6+1,none⟩=some (.int .i64 ia)∧w'.cell? ⟨cb,co+n*6+2,none⟩=some (.int .i64 ib)∧w'.cell? ⟨cb,co+n*6+3,none⟩=some (.int .i64 ic)∧w'.cell? ⟨cb,co+n*6+4,none⟩=some (.int .i64 ii)∧w'.cell? ⟨cb,co+n*6+5,none⟩=some (.slice Q args.length q)) (by kernel_rfl) ?_ (fun hHeld0=>?_)
  ·exact HT8.out _ (bl_drewN (Bl.refl w) _).drew
  refine tk (i:=0) (d:=some 15) rfl rfl (by kernel_rfl) (fun _ _ _ h=>h) (by rfl) (by intro _ h;(try dsimp only at h);go_split_ands;go_simp<;>with_reducible rfl) hHeld0 ?_
  try simp only [aS,aN,aT,a0,a1]
  refine tk (i:=1) (d:=some 16) rfl rfl (by kernel_rfl) (fun _ _ _ h=>h) (by rfl) (by intro _ h;(try dsimp only at h);go_split_ands;go_simp<;>with_reducible rfl) hHeld0 ?_
  try simp only [aS,aN,aT,a0,a1]
  refine tk (i:=2) (d:=some 17) rfl rfl (by kernel_rfl) (fun _ _ _ h=>h) (by rfl) (by intro _ h;(try dsimp only at h);go_split_ands;go_simp<;>with_reducible rfl) hHeld0 ?_
  try simp only [aS,aN,aT,a0,a1]
  refine tk (i:=3) (d:=some 18) rfl rfl (by kernel_rfl) (fun _ _ _ h=>h) (by rfl) (by intro _ h;(try dsimp only at h);go_split_ands;go_simp<;>with_reducible rfl) hHeld0 ?_
  try simp only [aS,aN,aT,a0,a1]
  refine tk (i:=4) (d:=some 19) rfl rfl (by kernel_rfl) (fun _ _ _ h=>h) (by rfl) (by intro _ h;(try dsimp only at h);go_split_ands;go_simp<;>with_reducible rfl) hHeld0 ?_
  try simp only [aS,aN,aT,a0,a1]
  refine tk (i:=5) (d:=some 20) rfl rfl (by kernel_rfl) (fun _ _ _ h=>h) (by rfl) (by intro _ h;(try dsimp only at h);go_split_ands;go_simp<;>with_reducible rfl) hHeld0 ?_
  try simp only [aS,aN,aT,a0,a1]
  refine tk (i:=6) (d:=some 21) rfl rfl (by kernel_rfl) (fun _ _ _ h=>h) (by rfl) (by intro _ h;(try dsimp only at h);go_split_ands;go_simp<;>with_reducible rfl) hHeld0 ?_
  try simp only [aS,aN,aT,a0,a1]
  refine tk (i:=7) (d:=some 22) rfl rfl (by kernel_rfl) (fun _ _ _ h=>h) (by rfl) (by intro _ h;(try dsimp only at h);go_split_ands;go_simp<;>with_reducible rfl) hHeld0 ?_
  try simp only [aS,aN,aT,a0,a1]
  refine tk (i:=8) (d:=some 23) rfl rfl (by kernel_rfl) (fun _ _ _ h=>h) (by rfl) (by intro _ h;(try dsimp only at h);go_split_ands;go_simp<;>with_reducible rfl) hHeld0 ?_
  try simp only [aS,aN,aT,a0,a1]
  refine tk (i:=9) (d:=some 24) rfl rfl (by kernel_rfl) (fun _ _ _ h=>h) (by rfl) (by intro _ h;(try dsimp only at h);go_split_ands;go_simp<;>with_reducible rfl) hHeld0 ?_
  try simp only [aS,aN,aT,a0,a1]
  refine tk (i:=10) (d:=some 25) rfl rfl (by kernel_rfl) (fun _ _ _ h=>h) (by rfl) (by intro _ h;(try dsimp only at h);go_split_ands;go_simp<;>with_reducible rfl) hHeld0 ?_
  try simp only [aS,aN,aT,a0,a1]
  refine rd1 (i:=11) (by kernel_rfl) rfl fun K hK=>?_
  go_wp2_with fail
  refine hK.out _ _ (HT8.out _ ((bl_drewN (Bl.refl w) _).alloc _)) (fun hHeld1=>?_)
  try simp only [aS,aN,aT,a0,a1]
  refine rd1 (i:=12) (by kernel_rfl) rfl fun K hK=>?_
  obtain ⟨B,hBB⟩:∃B,B=w.heap.size:=⟨_,rfl⟩
  obtain ⟨hVb,v0,v1,v2,v3,v4,v5,fzV,qB,hB⟩:=insN w (nq+1) B hBB
  simp only [←hBB]
  clear hHeld1 hBB
  generalize (w.drewN (nq+1)).alloc (.cells #[.int .i64 0,.int .i64 0,.int .i64 0,.int .i64 0,.int .i64 0,.slice none 0 0] 51)=V at *
  go_wp2_with fail
  obtain ⟨hV6,ZZ,q6⟩:=insS hVb hB v0 v1 v2 v3 v4 v5 fzV qB (.int .i64 op) (.int .i64 ia) (.int .i64 ib) (.int .i64 ic) (.int .i64 ii) (.slice Q args.length q)
  generalize (((((V.setCell ⟨B,0,none⟩ (.int .i64 op)).setCell ⟨B,1,none⟩ (.int .i64 ia)).setCell ⟨B,2,none⟩ (.int .i64 ib)).setCell ⟨B,3,none⟩ (.int .i64 ic)).setCell ⟨B,4,none⟩ (.int .i64 ii)).setCell ⟨B,5,none⟩ (.slice Q args.length q)=V6 at *
  refine hK.out _ _ (HT8.out _ hV6.out) (fun hHeld2=>?_)
  clear v0 v1 v2 v3 v4 v5 fzV hVb qB V
  obtain ⟨z0,z1,z2,z3,z4,z5,fz6⟩:=ZZ.out
  try simp only [aS,aN,aT,a0,a1]
  refine wpAnyH_done (by kernel_rfl) ?_ _
  go_wp2_with (go_at_call 94;refine (HW.out _ (by first|exact hV6.out|exact bl_drewN hV6.out _|exact hV6.out.drew)).mono ?_;rintro e w1 q;have he:=q.how;rw [HE.out] at he;subst he;replace q:=hid q)
  exact ⟨rfl,HDQ.out _ _ q.out HST.out⟩
 | false =>
  have HST:=hid hst
  have hE:DidE d=.returned (.tuple #[]):=by
   unfold DidE
   rw [if_neg (by rw [hs_over hst];decide),if_neg (hs_thr hst)]
  have HE:=hid hE
  rw [hE] at HDG
  clear H hs A hw hnx hpc hst hE h1 h2 h3 h4 h5
  go_enter Try.func66,Try.ntmps66
  go_wp2
  go_quiet (fail)
  go_wp2
  refine wp_region_held_drew (S:=fun w'=>w'.cell? ⟨a.q,8,none⟩=some (.slice (some ⟨cb,co,none⟩) c.m.code.length a.c)∧w'.cell? ⟨a.q,10,none⟩=some (.int .i64 (n:Int))∧w'.cell? ⟨cb,co+n*6,none⟩=some (.int .i64 op)∧w'.cell? ⟨cb,co+n*6+1,none⟩=some (.int .i64 ia)∧w'.cell? ⟨cb,co+n*6+2,none⟩=some (.int .i64 ib)∧w'.cell? ⟨cb,co+n*6+3,none⟩=some (.int .i64 ic)∧w'.cell? ⟨cb,co+n*6+4,none⟩=some (.int .i64 ii)∧w'.cell? ⟨cb,co+n*6+5,none⟩=some (.slice Q args.length q)) (by kernel_rfl) ?_ (fun hHeld0=>?_)
  ·exact HT8.out _ (bl_drewN (Bl.refl w) _).drew
  refine tk (i:=0) (d:=some 15) rfl rfl (by kernel_rfl) (fun _ _ _ h=>h) (by rfl) (by intro _ h;(try dsimp only at h);go_split_ands;go_simp<;>with_reducible rfl) hHeld0 ?_
  try simp only [aS,aN,aT,a0,a1]
  refine tk (i:=1) (d:=some 16) rfl rfl (by kernel_rfl) (fun _ _ _ h=>h) (by rfl) (by intro _ h;(try dsimp only at h);go_split_ands;go_simp<;>with_reducible rfl) hHeld0 ?_
  try simp only [aS,aN,aT,a0,a1]
  refine tk (i:=2) (d:=some 17) rfl rfl (by kernel_rfl) (fun _ _ _ h=>h) (by rfl) (by intro _ h;(try dsimp only at h);go_split_ands;go_simp<;>with_reducible rfl) hHeld0 ?_
  try simp only [aS,aN,aT,a0,a1]
  refine tk (i:=3) (d:=some 18) rfl rfl (by kernel_rfl) (fun _ _ _ h=>h) (by rfl) (by intro _ h;(try dsimp only at h);go_split_ands;go_simp<;>with_reducible rfl) hHeld0 ?_
  try simp only [aS,aN,aT,a0,a1]
  refine tk (i:=4) (d:=some 19) rfl rfl (by kernel_rfl) (fun _ _ _ h=>h) (by rfl) (by intro _ h;(try dsimp only at h);go_split_ands;go_simp<;>with_reducible rfl) hHeld0 ?_
  try simp only [aS,aN,aT,a0,a1]
  refine tk (i:=5) (d:=some 20) rfl rfl (by kernel_rfl) (fun _ _ _ h=>h) (by rfl) (by intro _ h;(try dsimp only at h);go_split_ands;go_simp<;>with_reducible rfl) hHeld0 ?_
  try simp only [aS,aN,aT,a0,a1]
  refine tk (i:=6) (d:=some 21) rfl rfl (by kernel_rfl) (fun _ _ _ h=>h) (by rfl) (by intro _ h;(try dsimp only at h);go_split_ands;go_simp<;>with_reducible rfl) hHeld0 ?_
  try simp only [aS,aN,aT,a0,a1]
  refine tk (i:=7) (d:=some 22) rfl rfl (by kernel_rfl) (fun _ _ _ h=>h) (by rfl) (by intro _ h;(try dsimp only at h);go_split_ands;go_simp<;>with_reducible rfl) hHeld0 ?_
  try simp only [aS,aN,aT,a0,a1]
  refine tk (i:=8) (d:=some 23) rfl rfl (by kernel_rfl) (fun _ _ _ h=>h) (by rfl) (by intro _ h;(try dsimp only at h);go_split_ands;go_simp<;>with_reducible rfl) hHeld0 ?_
  try simp only [aS,aN,aT,a0,a1]
  refine tk (i:=9) (d:=some 24) rfl rfl (by kernel_rfl) (fun _ _ _ h=>h) (by rfl) (by intro _ h;(try dsimp only at h);go_split_ands;go_simp<;>with_reducible rfl) hHeld0 ?_
  try simp only [aS,aN,aT,a0,a1]
  refine tk (i:=10) (d:=some 25) rfl rfl (by kernel_rfl) (fun _ _ _ h=>h) (by rfl) (by intro _ h;(try dsimp only at h);go_split_ands;go_simp<;>with_reducible rfl) hHeld0 ?_
  try simp only [aS,aN,aT,a0,a1]
  refine rd1 (i:=11) (by kernel_rfl) rfl fun K hK=>?_
  go_wp2_with fail
  refine hK.out _ _ (HT8.out _ ((bl_drewN (Bl.refl w) _).alloc _)) (fun hHeld1=>?_)
  try simp only [aS,aN,aT,a0,a1]
  refine rd1 (i:=12) (by kernel_rfl) rfl fun K hK=>?_
  obtain ⟨B,hBB⟩:∃B,B=w.heap.size:=⟨_,rfl⟩
  obtain ⟨hVb,v0,v1,v2,v3,v4,v5,fzV,qB,hB⟩:=insN w (nq+1) B hBB
  simp only [←hBB]
  clear hHeld1 hBB
  generalize (w.drewN (nq+1)).alloc (.cells #[.int .i64 0,.int .i64 0,.int .i64 0,.int .i64 0,.int .i64 0,.slice none 0 0] 51)=V at *
  go_wp2_with fail
  obtain ⟨hV6,ZZ,q6⟩:=insS hVb hB v0 v1 v2 v3 v4 v5 fzV qB (.int .i64 op) (.int .i64 ia) (.int .i64 ib) (.int .i64 ic) (.int .i64 ii) (.slice Q args.length q)
  generalize (((((V.setCell ⟨B,0,none⟩ (.int .i64 op)).setCell ⟨B,1,none⟩ (.int .i64 ia)).setCell ⟨B,2,none⟩ (.int .i64 ib)).setCell ⟨B,3,none⟩ (.int .i64 ic)).setCell ⟨B,4,none⟩ (.int .i64 ii)).setCell ⟨B,5,none⟩ (.slice Q args.length q)=V6 at *
  refine hK.out _ _ (HT8.out _ hV6.out) (fun hHeld2=>?_)
  clear v0 v1 v2 v3 v4 v5 fzV hVb qB V
  obtain ⟨z0,z1,z2,z3,z4,z5,fz6⟩:=ZZ.out
  try simp only [aS,aN,aT,a0,a1]
  refine wpAnyH_done (by kernel_rfl) ?_ _
  go_wp2_with (go_at_call 94;refine (HW.out _ (by first|exact hV6.out|exact bl_drewN hV6.out _|exact hV6.out.drew)).mono ?_;rintro e w1 q;have he:=q.how;rw [HE.out] at he;subst he;have H5:=q.go HST.out;obtain ⟨k10,kz,-⟩:=H5.c10;rw [HPC.out] at k10;replace H5:=hid H5;clear q)
  go_end0
  exact HDG.out _ (H5.out.setpc _) HST.out
end Go.Proofs.Ytgiiapenmjollaa
