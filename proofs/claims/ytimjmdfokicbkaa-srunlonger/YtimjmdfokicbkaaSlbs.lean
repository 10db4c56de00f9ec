import Derived.Test.YtimjmdfokicbkaaSlbr
namespace Go.Proofs.Ytimjmdfokicbkaa
set_option linter.unusedVariables false
set_option linter.unusedSimpArgs false
set_option maxHeartbeats 40000000
open Go.RowKit
abbrev runA (f:Fi) (A B R I:Option Addr) (a b rc ic:Nat) (entry fuel:Int) (args input:List Int):Array Value:=#[filV f.classes.length f.methods.length A B a b,.int .i64 entry,.slice R args.length rc,.slice I input.length ic,.int .i64 fuel]
theorem row_low {w:World} {base base':Nat} {e:TypeId} {size n:Nat} {v:Value} {xs:List Value} (h:w.ownsRow base e size v n xs) (hb:base'≤base):w.ownsRow base' e size v n xs:=by
 refine ⟨h.1,?_⟩
 rcases h.2 with h1|⟨gb,cap,cur,e1,h2,h3⟩
 ·exact Or.inl h1
 ·exact Or.inr ⟨gb,cap,cur,e1,Nat.le_trans hb h2,h3⟩
theorem file_box (f:Fi) (A B:Option Addr) (a b:Nat) (w:World):((w.alloc (filO f.classes.length f.methods.length A B a b)).alloc shMZ).heap[w.heap.size]?=some (.cells #[.slice A f.classes.length a,.slice B f.methods.length b] 36 (0,0))∧((w.alloc (filO f.classes.length f.methods.length A B a b)).alloc shMZ).heap[w.heap.size+1]?=some (.cells #[.int .i64 0,.int .i64 0,.int .i64 0,.slice none 0 0,.int .i64 0,.int .i64 0] 40 (0,0)) :=
 two_lie w _ _ _ _
theorem form_box (f:Fi) (A B:Option Addr) (a b:Nat) (w:World):Bl w (((w.alloc (filO f.classes.length f.methods.length A B a b)).alloc shMZ).alloc formO)∧(((w.alloc (filO f.classes.length f.methods.length A B a b)).alloc shMZ).alloc formO).heap[w.heap.size+1]?=some (.cells #[.int .i64 0,.int .i64 0,.int .i64 0,.slice none 0 0,.int .i64 0,.int .i64 0] 40 (0,0)) :=
 ⟨(((Bl.refl w).alloc _).alloc _).alloc _,bl_blk ((Bl.refl _).alloc _) (file_box f A B a b w).2⟩
set_option maxRecDepth 100000 in
theorem srun_bad (f:Fi) (A B R I:Option Addr) (a b rc ic:Nat) (entry fuel:Int) (args input:List Int) (w:World) (E:Int)
  (hF:∀w',Bl w w'→Calls Try.prog 52 #[formV,filV f.classes.length f.methods.length A B a b,.int .i64 entry,.slice R args.length rc,.slice I input.length ic,.int .i64 fuel] w' fun e w2=>e=.returned (.tuple #[.agg #[.int .i64 0,.int .i64 0,.int .i64 0,.slice none 0 0,.int .i64 0,.int .i64 0],.int .i64 E])∧Bl w' w2) :
  Calls Try.prog 29 (runA f A B R I a b rc ic entry fuel args input) w fun e w'=>e=.returned (.tuple #[.agg #[.int .i64 0,.int .i64 0,.int .i64 0,.slice none 0 0,.int .i64 0,.int .i64 0],.int .i64 E])∧Bl w w':=by
 have HF:=hid hF
 have HL:=hid (form_box f A B a b w)
 clear hF
 go_enter Try.func29,Try.ntmps29
 go_wp2_with (go_at_call 52;refine (HF.out _ HL.out.1).mono ?_;rintro e w1 ⟨rfl,b1⟩;have q1:=bl_blk b1 HL.out.2;have z0:w1.cell? ⟨w.heap.size+1,0,none⟩=some (.int .i64 0):=(cell_blk q1).trans rfl;have z1:w1.cell? ⟨w.heap.size+1,1,none⟩=some (.int .i64 0):=(cell_blk q1).trans rfl;have z2:w1.cell? ⟨w.heap.size+1,2,none⟩=some (.int .i64 0):=(cell_blk q1).trans rfl;have z3:w1.cell? ⟨w.heap.size+1,3,none⟩=some (.slice none 0 0):=(cell_blk q1).trans rfl;have z4:w1.cell? ⟨w.heap.size+1,4,none⟩=some (.int .i64 0):=(cell_blk q1).trans rfl;have z5:w1.cell? ⟨w.heap.size+1,5,none⟩=some (.int .i64 0):=(cell_blk q1).trans rfl;have fr:=free_blk q1;replace q1:=hid q1;have B1:=hid b1;clear b1)
 refine bodyPost_ret (results_cell_tmpm rfl _ _ (w.heap.size+1) _ _ (.int .i64 E) _ _ rfl rfl (set_six6 q1.out _ _ _ _ _ _) Try.underlying40 rfl info_shm) rfl ?_
 exact ⟨rfl,bl_six6 (HL.out.1.trans B1.out) (Nat.le_succ _) _ _ _ _ _ _⟩
set_option maxRecDepth 100000 in
theorem srun_ok (f:Fi) (A B R I:Option Addr) (a b rc ic:Nat) (entry fuel:Int) (args input:List Int) (w:World) (s:Sh)
  (hF:∀w',Bl w w'→Calls Try.prog 52 #[formV,filV f.classes.length f.methods.length A B a b,.int .i64 entry,.slice R args.length rc,.slice I input.length ic,.int .i64 fuel] w' fun e w2=>RunEnd w' s e w2) :
  Calls Try.prog 29 (runA f A B R I a b rc ic entry fuel args input) w fun e w'=>RunEnd w s e w':=by
 have HF:=hid hF
 have HL:=hid (form_box f A B a b w)
 clear hF
 go_enter Try.func29,Try.ntmps29
 go_wp2_with (go_at_call 52;refine (HF.out _ HL.out.1).mono ?_;rintro e w1 ⟨vx,rfl,ow,b1⟩;obtain ⟨Ax,cx,rfl,-,-⟩:=own_form ow;have q1:=bl_blk b1 HL.out.2;have z0:w1.cell? ⟨w.heap.size+1,0,none⟩=some (.int .i64 0):=(cell_blk q1).trans rfl;have z1:w1.cell? ⟨w.heap.size+1,1,none⟩=some (.int .i64 0):=(cell_blk q1).trans rfl;have z2:w1.cell? ⟨w.heap.size+1,2,none⟩=some (.int .i64 0):=(cell_blk q1).trans rfl;have z3:w1.cell? ⟨w.heap.size+1,3,none⟩=some (.slice none 0 0):=(cell_blk q1).trans rfl;have z4:w1.cell? ⟨w.heap.size+1,4,none⟩=some (.int .i64 0):=(cell_blk q1).trans rfl;have z5:w1.cell? ⟨w.heap.size+1,5,none⟩=some (.int .i64 0):=(cell_blk q1).trans rfl;have fr:=free_blk q1;replace q1:=hid q1;have B1:=hid b1;have OW:=hid ow;clear b1 ow)
 refine bodyPost_ret (results_cell_tmpm rfl _ _ (w.heap.size+1) _ _ (.int .i64 0) _ _ rfl rfl (set_six6 q1.out _ _ _ _ _ _) Try.underlying40 rfl info_shm) rfl ?_
 exact ⟨_,rfl,row_six (row_low OW.out (HL.out.1.size)) q1.out _ _ _ _ _ _,bl_six6 (HL.out.1.trans B1.out) (Nat.le_succ _) _ _ _ _ _ _⟩
end Go.Proofs.Ytimjmdfokicbkaa
