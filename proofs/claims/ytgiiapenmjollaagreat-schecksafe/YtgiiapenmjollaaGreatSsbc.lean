import Derived.Test.YtgiiapenmjollaaGreatSsbb
namespace Go.Proofs.YtgiiapenmjollaaGreat
set_option linter.all false
set_option maxHeartbeats 40000000
set_option maxRecDepth 100000
open Go.RowKit
section
section
variable {X:Nat→Prop} {wx w0 w1:World} {g:Gf} {b0:Nat} {w:World} {cur s:As} {at':Int} {st:List (Option As)} {wt:List Int} {f:Fi} {m:Me} {v t:Ty} {k:Int}
theorem fhand14 (C:Cx w0 w1 g f m) (W:Wq f m cur) (ia:Int) (hc:0≤ia∧ia<f.classes.length) (ib:Int) (ic ii:Int) (A0:Option Addr) (n0 k0:Nat) (H:FX X wx w1 g b0 w cur at' st wt) :
  Calls Tryz.prog 220 #[.pointer (some ⟨g.q,0,none⟩),insV 14 ia ib ic ii (.slice A0 n0 k0)] w fun e w'=>AsQ X wx w1 g b0 at' st wt (putT m.stack ⟨3,ia⟩ cur) e w':=by
 have HB:Hid (Bl w (w.alloc (insO 14 ia ib ic ii (.slice A0 n0 k0)))):=(Bl.refl w).alloc _
 have hm30:m.stack≤30:=(smeP C.me).2.1
 have F0:=hid (H.wide HB.out)
 have HC:=hid C
 have HH:=hid H
 have W0:=hid W
 have ZB:=hid (mblk (w:=w) (cs:=#[.int .i64 14,.int .i64 ia,.int .i64 ib,.int .i64 ic,.int .i64 ii,.slice A0 n0 k0]) (t:=55) rfl)
 obtain ⟨r,hr⟩:∃r,r=(putT m.stack ⟨3,ia⟩ cur):=⟨_,rfl⟩
 rw [←hr]
 replace hr:=hid hr
 clear C W H
 cases h1:putT m.stack ⟨3,ia⟩ cur with
 | none =>
  have H1:=hid h1
  clear h1
  have EE:Hid (r=none):=by show r=_;rw [hr.out];simp only [H1.out,Option.bind_some,Option.bind_none]
  go_enter Tryz.func220,Tryz.ntmps220
  go_wp2_with (first
   | (have:=P0r;go_at_call 213;refine (fput_n HC.out W0.out (tokc hc) P0r.out H1.out).mono ?_;rintro e wz ⟨rfl,fz⟩)
   | (have:=F0;go_at_call 209;refine (fref_any ia _).mono ?_;rintro e wp0 ⟨rfl,bp0⟩;have P0r:=hid (FX.bl F0.out bp0);have Zp0:=hid (P0r.out.box (Nat.le_refl _) (by simp) ZB.out);clear bp0))
  refine ⟨rfl,?_⟩
  rw [EE.out]
  exact ⟨rfl,FE.back HH.out HB.out fz⟩
 | some s1 =>
  have H1:=hid h1
  clear h1
  have EE:Hid (r=some s1):=by show r=_;rw [hr.out];simp only [H1.out,Option.bind_some]
  go_enter Tryz.func220,Tryz.ntmps220
  go_wp2_with (first
   | (have:=P0r;go_at_call 213;refine (fput_y HC.out W0.out (tokc hc) P0r.out H1.out).mono ?_;rintro e y1 ⟨rfl,f1⟩;have F1:=hid f1;have Z1:=hid (f1.box (Nat.le_refl _) (by simp) ZB.out);have c1_0:=(cell_blk (i:=0) Z1.out).trans rfl;have c1_1:=(cell_blk (i:=1) Z1.out).trans rfl;have c1_2:=(cell_blk (i:=2) Z1.out).trans rfl;have c1_3:=(cell_blk (i:=3) Z1.out).trans rfl;have c1_4:=(cell_blk (i:=4) Z1.out).trans rfl;have c1_5:=(cell_blk (i:=5) Z1.out).trans rfl;clear f1)
   | (have:=F0;go_at_call 209;refine (fref_any ia _).mono ?_;rintro e wp0 ⟨rfl,bp0⟩;have P0r:=hid (FX.bl F0.out bp0);have Zp0:=hid (P0r.out.box (Nat.le_refl _) (by simp) ZB.out);clear bp0))
  go_end0
  rw [EE.out]
  exact ⟨rfl,FX.back HH.out HB.out F1.out⟩
theorem fhand15 (C:Cx w0 w1 g f m) (W:Wq f m cur) (ia ib:Nat) (ha:ia<f.classes.length) (hb:ib<(nth cl0 f.classes ia).fields.length) (ic ii:Int) (A0:Option Addr) (n0 k0:Nat) (H:FX X wx w1 g b0 w cur at' st wt) :
  Calls Tryz.prog 220 #[.pointer (some ⟨g.q,0,none⟩),insV 15 (ia:Int) (ib:Int) ic ii (.slice A0 n0 k0)] w fun e w'=>AsQ X wx w1 g b0 at' st wt ((takeY f.classes ⟨3,(ia:Int)⟩ cur).bind fun p=>putT m.stack (nth ty0 (nth cl0 f.classes ia).fields ib) p) e w':=by
 have HB:Hid (Bl w (w.alloc (insO 15 (ia:Int) (ib:Int) ic ii (.slice A0 n0 k0)))):=(Bl.refl w).alloc _
 have hm30:m.stack≤30:=(smeP C.me).2.1
 have F0:=hid (H.wide HB.out)
 have HC:=hid C
 have HH:=hid H
 have W0:=hid W
 have ZB:=hid (mblk (w:=w) (cs:=#[.int .i64 15,.int .i64 (ia:Int),.int .i64 (ib:Int),.int .i64 ic,.int .i64 ii,.slice A0 n0 k0]) (t:=55) rfl)
 obtain ⟨r,hr⟩:∃r,r=((takeY f.classes ⟨3,(ia:Int)⟩ cur).bind fun p=>putT m.stack (nth ty0 (nth cl0 f.classes ia).fields ib) p):=⟨_,rfl⟩
 rw [←hr]
 replace hr:=hid hr
 clear C W H
 cases h1:takeY f.classes ⟨3,(ia:Int)⟩ cur with
 | none =>
  have H1:=hid h1
  clear h1
  have EE:Hid (r=none):=by show r=_;rw [hr.out];simp only [H1.out,Option.bind_some,Option.bind_none]
  go_enter Tryz.func220,Tryz.ntmps220
  go_wp2_with (first
   | (have:=F0;go_at_call 241;refine (frefc_n HC.out W0.out (⟨by omega,by omega⟩) F0.out H1.out).mono ?_;rintro e wz ⟨rfl,fz⟩))
  refine ⟨rfl,?_⟩
  rw [EE.out]
  exact ⟨rfl,FE.back HH.out HB.out fz⟩
 | some s1 =>
  have H1:=hid h1
  clear h1
  have W1:=hid (W0.out.takeY H1.out)
  cases h2:putT m.stack (nth ty0 (nth cl0 f.classes ia).fields ib) s1 with
  | none =>
   have H2:=hid h2
   clear h2
   have EE:Hid (r=none):=by show r=_;rw [hr.out];simp only [H1.out,H2.out,Option.bind_some,Option.bind_none]
   go_enter Tryz.func220,Tryz.ntmps220
   go_wp2_with (first
    | (have:=P1f;go_at_call 213;refine (fput_n HC.out W1.out (tyB_ok (may_fldT HC.out.may ha hb)) P1f.out H2.out).mono ?_;rintro e wz ⟨rfl,fz⟩)
    | (have:=F1;go_at_call 242;refine (ffield_any HC.out 15 ic ii ia ib A0 n0 k0 F1.out ha hb).mono ?_;rintro e wp1 ⟨rfl,bp1⟩;have P1f:=hid (FX.bl F1.out bp1);have Zp1:=hid (P1f.out.box (Nat.le_refl _) (by simp) ZB.out);clear bp1)
    | (have:=F0;go_at_call 241;refine (frefc_y HC.out W0.out (⟨by omega,by omega⟩) F0.out H1.out).mono ?_;rintro e y1 ⟨rfl,f1⟩;have F1:=hid f1;have Z1:=hid (f1.box (Nat.le_refl _) (by simp) ZB.out);have c1_0:=(cell_blk (i:=0) Z1.out).trans rfl;have c1_1:=(cell_blk (i:=1) Z1.out).trans rfl;have c1_2:=(cell_blk (i:=2) Z1.out).trans rfl;have c1_3:=(cell_blk (i:=3) Z1.out).trans rfl;have c1_4:=(cell_blk (i:=4) Z1.out).trans rfl;have c1_5:=(cell_blk (i:=5) Z1.out).trans rfl;clear f1))
   refine ⟨rfl,?_⟩
   rw [EE.out]
   exact ⟨rfl,FE.back HH.out HB.out fz⟩
  | some s2 =>
   have H2:=hid h2
   clear h2
   have EE:Hid (r=some s2):=by show r=_;rw [hr.out];simp only [H1.out,H2.out,Option.bind_some]
   go_enter Tryz.func220,Tryz.ntmps220
   go_wp2_with (first
    | (have:=P1f;go_at_call 213;refine (fput_y HC.out W1.out (tyB_ok (may_fldT HC.out.may ha hb)) P1f.out H2.out).mono ?_;rintro e y2 ⟨rfl,f2⟩;have F2:=hid f2;have Z2:=hid (f2.box (Nat.le_refl _) (by simp) ZB.out);have c2_0:=(cell_blk (i:=0) Z2.out).trans rfl;have c2_1:=(cell_blk (i:=1) Z2.out).trans rfl;have c2_2:=(cell_blk (i:=2) Z2.out).trans rfl;have c2_3:=(cell_blk (i:=3) Z2.out).trans rfl;have c2_4:=(cell_blk (i:=4) Z2.out).trans rfl;have c2_5:=(cell_blk (i:=5) Z2.out).trans rfl;clear f2)
    | (have:=F1;go_at_call 242;refine (ffield_any HC.out 15 ic ii ia ib A0 n0 k0 F1.out ha hb).mono ?_;rintro e wp1 ⟨rfl,bp1⟩;have P1f:=hid (FX.bl F1.out bp1);have Zp1:=hid (P1f.out.box (Nat.le_refl _) (by simp) ZB.out);clear bp1)
    | (have:=F0;go_at_call 241;refine (frefc_y HC.out W0.out (⟨by omega,by omega⟩) F0.out H1.out).mono ?_;rintro e y1 ⟨rfl,f1⟩;have F1:=hid f1;have Z1:=hid (f1.box (Nat.le_refl _) (by simp) ZB.out);have c1_0:=(cell_blk (i:=0) Z1.out).trans rfl;have c1_1:=(cell_blk (i:=1) Z1.out).trans rfl;have c1_2:=(cell_blk (i:=2) Z1.out).trans rfl;have c1_3:=(cell_blk (i:=3) Z1.out).trans rfl;have c1_4:=(cell_blk (i:=4) Z1.out).trans rfl;have c1_5:=(cell_blk (i:=5) Z1.out).trans rfl;clear f1))
   go_end0
   rw [EE.out]
   exact ⟨rfl,FX.back HH.out HB.out F2.out⟩
theorem fhand16 (C:Cx w0 w1 g f m) (W:Wq f m cur) (ia ib:Nat) (ha:ia<f.classes.length) (hb:ib<(nth cl0 f.classes ia).fields.length) (ic ii:Int) (A0:Option Addr) (n0 k0:Nat) (H:FX X wx w1 g b0 w cur at' st wt) :
  Calls Tryz.prog 220 #[.pointer (some ⟨g.q,0,none⟩),insV 16 (ia:Int) (ib:Int) ic ii (.slice A0 n0 k0)] w fun e w'=>AsQ X wx w1 g b0 at' st wt ((takeY f.classes (nth ty0 (nth cl0 f.classes ia).fields ib) cur).bind fun p=>takeY f.classes ⟨3,(ia:Int)⟩ p) e w':=by
 have HB:Hid (Bl w (w.alloc (insO 16 (ia:Int) (ib:Int) ic ii (.slice A0 n0 k0)))):=(Bl.refl w).alloc _
 have hm30:m.stack≤30:=(smeP C.me).2.1
 have F0:=hid (H.wide HB.out)
 have HC:=hid C
 have HH:=hid H
 have W0:=hid W
 have ZB:=hid (mblk (w:=w) (cs:=#[.int .i64 16,.int .i64 (ia:Int),.int .i64 (ib:Int),.int .i64 ic,.int .i64 ii,.slice A0 n0 k0]) (t:=55) rfl)
 obtain ⟨r,hr⟩:∃r,r=((takeY f.classes (nth ty0 (nth cl0 f.classes ia).fields ib) cur).bind fun p=>takeY f.classes ⟨3,(ia:Int)⟩ p):=⟨_,rfl⟩
 rw [←hr]
 replace hr:=hid hr
 clear C W H
 cases h1:takeY f.classes (nth ty0 (nth cl0 f.classes ia).fields ib) cur with
 | none =>
  have H1:=hid h1
  clear h1
  have EE:Hid (r=none):=by show r=_;rw [hr.out];simp only [H1.out,Option.bind_some,Option.bind_none]
  go_enter Tryz.func220,Tryz.ntmps220
  go_wp2_with (first
   | (have:=P0f;go_at_call 212;refine (ftakeY_n HC.out W0.out (fun e=>(by have:=of_decide_eq_true (may_fldT HC.out.may ha hb);omega)) P0f.out H1.out).mono ?_;rintro e wz ⟨rfl,fz⟩)
   | (have:=F0;go_at_call 242;refine (ffield_any HC.out 16 ic ii ia ib A0 n0 k0 F0.out ha hb).mono ?_;rintro e wp0 ⟨rfl,bp0⟩;have P0f:=hid (FX.bl F0.out bp0);have Zp0:=hid (P0f.out.box (Nat.le_refl _) (by simp) ZB.out);clear bp0))
  refine ⟨rfl,?_⟩
  rw [EE.out]
  exact ⟨rfl,FE.back HH.out HB.out fz⟩
 | some s1 =>
  have H1:=hid h1
  clear h1
  have W1:=hid (W0.out.takeY H1.out)
  cases h2:takeY f.classes ⟨3,(ia:Int)⟩ s1 with
  | none =>
   have H2:=hid h2
   clear h2
   have EE:Hid (r=none):=by show r=_;rw [hr.out];simp only [H1.out,H2.out,Option.bind_some,Option.bind_none]
   go_enter Tryz.func220,Tryz.ntmps220
   go_wp2_with (first
    | (have:=F1;go_at_call 241;refine (frefc_n HC.out W1.out (⟨by omega,by omega⟩) F1.out H2.out).mono ?_;rintro e wz ⟨rfl,fz⟩)
    | (have:=P0f;go_at_call 212;refine (ftakeY_y HC.out W0.out (fun e=>(by have:=of_decide_eq_true (may_fldT HC.out.may ha hb);omega)) P0f.out H1.out).mono ?_;rintro e y1 ⟨rfl,f1⟩;have F1:=hid f1;have Z1:=hid (f1.box (Nat.le_refl _) (by simp) ZB.out);have c1_0:=(cell_blk (i:=0) Z1.out).trans rfl;have c1_1:=(cell_blk (i:=1) Z1.out).trans rfl;have c1_2:=(cell_blk (i:=2) Z1.out).trans rfl;have c1_3:=(cell_blk (i:=3) Z1.out).trans rfl;have c1_4:=(cell_blk (i:=4) Z1.out).trans rfl;have c1_5:=(cell_blk (i:=5) Z1.out).trans rfl;clear f1)
    | (have:=F0;go_at_call 242;refine (ffield_any HC.out 16 ic ii ia ib A0 n0 k0 F0.out ha hb).mono ?_;rintro e wp0 ⟨rfl,bp0⟩;have P0f:=hid (FX.bl F0.out bp0);have Zp0:=hid (P0f.out.box (Nat.le_refl _) (by simp) ZB.out);clear bp0))
   refine ⟨rfl,?_⟩
   rw [EE.out]
   exact ⟨rfl,FE.back HH.out HB.out fz⟩
  | some s2 =>
   have H2:=hid h2
   clear h2
   have EE:Hid (r=some s2):=by show r=_;rw [hr.out];simp only [H1.out,H2.out,Option.bind_some]
   go_enter Tryz.func220,Tryz.ntmps220
   go_wp2_with (first
    | (have:=F1;go_at_call 241;refine (frefc_y HC.out W1.out (⟨by omega,by omega⟩) F1.out H2.out).mono ?_;rintro e y2 ⟨rfl,f2⟩;have F2:=hid f2;have Z2:=hid (f2.box (Nat.le_refl _) (by simp) ZB.out);have c2_0:=(cell_blk (i:=0) Z2.out).trans rfl;have c2_1:=(cell_blk (i:=1) Z2.out).trans rfl;have c2_2:=(cell_blk (i:=2) Z2.out).trans rfl;have c2_3:=(cell_blk (i:=3) Z2.out).trans rfl;have c2_4:=(cell_blk (i:=4) Z2.out).trans rfl;have c2_5:=(cell_blk (i:=5) Z2.out).trans rfl;clear f2)
    | (have:=P0f;go_at_call 212;refine (ftakeY_y HC.out W0.out (fun e=>(by have:=of_decide_eq_true (may_fldT HC.out.may ha hb);omega)) P0f.out H1.out).mono ?_;rintro e y1 ⟨rfl,f1⟩;have F1:=hid f1;have Z1:=hid (f1.box (Nat.le_refl _) (by simp) ZB.out);have c1_0:=(cell_blk (i:=0) Z1.out).trans rfl;have c1_1:=(cell_blk (i:=1) Z1.out).trans rfl;have c1_2:=(cell_blk (i:=2) Z1.out).trans rfl;have c1_3:=(cell_blk (i:=3) Z1.out).trans rfl;have c1_4:=(cell_blk (i:=4) Z1.out).trans rfl;have c1_5:=(cell_blk (i:=5) Z1.out).trans rfl;clear f1)
    | (have:=F0;go_at_call 242;refine (ffield_any HC.out 16 ic ii ia ib A0 n0 k0 F0.out ha hb).mono ?_;rintro e wp0 ⟨rfl,bp0⟩;have P0f:=hid (FX.bl F0.out bp0);have Zp0:=hid (P0f.out.box (Nat.le_refl _) (by simp) ZB.out);clear bp0))
   go_end0
   rw [EE.out]
   exact ⟨rfl,FX.back HH.out HB.out F2.out⟩
theorem fhand17 (C:Cx w0 w1 g f m) (W:Wq f m cur) (ia:Int) (hc:0≤ia∧ia<f.classes.length) (ib:Int) (ic ii:Int) (A0:Option Addr) (n0 k0:Nat) (H:FX X wx w1 g b0 w cur at' st wt) :
  Calls Tryz.prog 220 #[.pointer (some ⟨g.q,0,none⟩),insV 17 ia ib ic ii (.slice A0 n0 k0)] w fun e w'=>AsQ X wx w1 g b0 at' st wt ((takeK 3 cur).bind fun p=>putT m.stack ⟨3,ia⟩ p.2) e w':=by
 have HB:Hid (Bl w (w.alloc (insO 17 ia ib ic ii (.slice A0 n0 k0)))):=(Bl.refl w).alloc _
 have hm30:m.stack≤30:=(smeP C.me).2.1
 have F0:=hid (H.wide HB.out)
 have HC:=hid C
 have HH:=hid H
 have W0:=hid W
 have ZB:=hid (mblk (w:=w) (cs:=#[.int .i64 17,.int .i64 ia,.int .i64 ib,.int .i64 ic,.int .i64 ii,.slice A0 n0 k0]) (t:=55) rfl)
 obtain ⟨r,hr⟩:∃r,r=((takeK 3 cur).bind fun p=>putT m.stack ⟨3,ia⟩ p.2):=⟨_,rfl⟩
 rw [←hr]
 replace hr:=hid hr
 clear C W H
 cases h1:takeK 3 cur with
 | none =>
  have H1:=hid h1
  clear h1
  have EE:Hid (r=none):=by show r=_;rw [hr.out];simp only [H1.out,Option.bind_some,Option.bind_none]
  go_enter Tryz.func220,Tryz.ntmps220
  go_wp2_with (first
   | (have:=F0;go_at_call 173;refine (ftakeK_n HC.out W0.out F0.out H1.out).mono ?_;rintro e wz ⟨rfl,fz⟩))
  refine ⟨rfl,?_⟩
  rw [EE.out]
  exact ⟨rfl,FE.back HH.out HB.out fz⟩
 | some p1 =>
  obtain ⟨v1,s1⟩:=p1
  have H1:=hid h1
  clear h1
  have W1:=hid ((W0.out.takeK H1.out).1)
  cases h2:putT m.stack ⟨3,ia⟩ s1 with
  | none =>
   have H2:=hid h2
   clear h2
   have EE:Hid (r=none):=by show r=_;rw [hr.out];simp only [H1.out,H2.out,Option.bind_some,Option.bind_none]
   go_enter Tryz.func220,Tryz.ntmps220
   go_wp2_with (first
    | (have:=P1r;go_at_call 213;refine (fput_n HC.out W1.out (tokc hc) P1r.out H2.out).mono ?_;rintro e wz ⟨rfl,fz⟩)
    | (have:=F1;go_at_call 209;refine (fref_any ia _).mono ?_;rintro e wp1 ⟨rfl,bp1⟩;have P1r:=hid (FX.bl F1.out bp1);have Zp1:=hid (P1r.out.box (Nat.le_refl _) (by simp) ZB.out);clear bp1)
    | (have:=F0;go_at_call 173;refine (ftakeK_y HC.out W0.out F0.out H1.out).mono ?_;rintro e y1 ⟨rfl,f1⟩;have F1:=hid f1;have Z1:=hid (f1.box (Nat.le_refl _) (by simp) ZB.out);have c1_0:=(cell_blk (i:=0) Z1.out).trans rfl;have c1_1:=(cell_blk (i:=1) Z1.out).trans rfl;have c1_2:=(cell_blk (i:=2) Z1.out).trans rfl;have c1_3:=(cell_blk (i:=3) Z1.out).trans rfl;have c1_4:=(cell_blk (i:=4) Z1.out).trans rfl;have c1_5:=(cell_blk (i:=5) Z1.out).trans rfl;clear f1))
   refine ⟨rfl,?_⟩
   rw [EE.out]
   exact ⟨rfl,FE.back HH.out HB.out fz⟩
  | some s2 =>
   have H2:=hid h2
   clear h2
   have EE:Hid (r=some s2):=by show r=_;rw [hr.out];simp only [H1.out,H2.out,Option.bind_some]
   go_enter Tryz.func220,Tryz.ntmps220
   go_wp2_with (first
    | (have:=P1r;go_at_call 213;refine (fput_y HC.out W1.out (tokc hc) P1r.out H2.out).mono ?_;rintro e y2 ⟨rfl,f2⟩;have F2:=hid f2;have Z2:=hid (f2.box (Nat.le_refl _) (by simp) ZB.out);have c2_0:=(cell_blk (i:=0) Z2.out).trans rfl;have c2_1:=(cell_blk (i:=1) Z2.out).trans rfl;have c2_2:=(cell_blk (i:=2) Z2.out).trans rfl;have c2_3:=(cell_blk (i:=3) Z2.out).trans rfl;have c2_4:=(cell_blk (i:=4) Z2.out).trans rfl;have c2_5:=(cell_blk (i:=5) Z2.out).trans rfl;clear f2)
    | (have:=F1;go_at_call 209;refine (fref_any ia _).mono ?_;rintro e wp1 ⟨rfl,bp1⟩;have P1r:=hid (FX.bl F1.out bp1);have Zp1:=hid (P1r.out.box (Nat.le_refl _) (by simp) ZB.out);clear bp1)
    | (have:=F0;go_at_call 173;refine (ftakeK_y HC.out W0.out F0.out H1.out).mono ?_;rintro e y1 ⟨rfl,f1⟩;have F1:=hid f1;have Z1:=hid (f1.box (Nat.le_refl _) (by simp) ZB.out);have c1_0:=(cell_blk (i:=0) Z1.out).trans rfl;have c1_1:=(cell_blk (i:=1) Z1.out).trans rfl;have c1_2:=(cell_blk (i:=2) Z1.out).trans rfl;have c1_3:=(cell_blk (i:=3) Z1.out).trans rfl;have c1_4:=(cell_blk (i:=4) Z1.out).trans rfl;have c1_5:=(cell_blk (i:=5) Z1.out).trans rfl;clear f1))
   go_end0
   rw [EE.out]
   exact ⟨rfl,FX.back HH.out HB.out F2.out⟩
theorem fhand18 (C:Cx w0 w1 g f m) (W:Wq f m cur) (ia:Int) (hc:0≤ia∧ia<f.classes.length) (ib:Int) (ic ii:Int) (A0:Option Addr) (n0 k0:Nat) (H:FX X wx w1 g b0 w cur at' st wt) :
  Calls Tryz.prog 220 #[.pointer (some ⟨g.q,0,none⟩),insV 18 ia ib ic ii (.slice A0 n0 k0)] w fun e w'=>AsQ X wx w1 g b0 at' st wt ((takeK 3 cur).bind fun p=>putT m.stack ⟨1,0⟩ p.2) e w':=by
 have HB:Hid (Bl w (w.alloc (insO 18 ia ib ic ii (.slice A0 n0 k0)))):=(Bl.refl w).alloc _
 have hm30:m.stack≤30:=(smeP C.me).2.1
 have F0:=hid (H.wide HB.out)
 have HC:=hid C
 have HH:=hid H
 have W0:=hid W
 have ZB:=hid (mblk (w:=w) (cs:=#[.int .i64 18,.int .i64 ia,.int .i64 ib,.int .i64 ic,.int .i64 ii,.slice A0 n0 k0]) (t:=55) rfl)
 obtain ⟨r,hr⟩:∃r,r=((takeK 3 cur).bind fun p=>putT m.stack ⟨1,0⟩ p.2):=⟨_,rfl⟩
 rw [←hr]
 replace hr:=hid hr
 clear C W H
 cases h1:takeK 3 cur with
 | none =>
  have H1:=hid h1
  clear h1
  have EE:Hid (r=none):=by show r=_;rw [hr.out];simp only [H1.out,Option.bind_some,Option.bind_none]
  go_enter Tryz.func220,Tryz.ntmps220
  go_wp2_with (first
   | (have:=F0;go_at_call 173;refine (ftakeK_n HC.out W0.out F0.out H1.out).mono ?_;rintro e wz ⟨rfl,fz⟩))
  refine ⟨rfl,?_⟩
  rw [EE.out]
  exact ⟨rfl,FE.back HH.out HB.out fz⟩
 | some p1 =>
  obtain ⟨v1,s1⟩:=p1
  have H1:=hid h1
  clear h1
  have W1:=hid ((W0.out.takeK H1.out).1)
  cases h2:putT m.stack ⟨1,0⟩ s1 with
  | none =>
   have H2:=hid h2
   clear h2
   have EE:Hid (r=none):=by show r=_;rw [hr.out];simp only [H1.out,H2.out,Option.bind_some,Option.bind_none]
   go_enter Tryz.func220,Tryz.ntmps220
   go_wp2_with (first
    | (have:=P1i;go_at_call 213;refine (fput_n HC.out W1.out (tok1 _) P1i.out H2.out).mono ?_;rintro e wz ⟨rfl,fz⟩)
    | (have:=F1;go_at_call 214;refine (fint_any _).mono ?_;rintro e wp1 ⟨rfl,bp1⟩;have P1i:=hid (FX.bl F1.out bp1);have Zp1:=hid (P1i.out.box (Nat.le_refl _) (by simp) ZB.out);clear bp1)
    | (have:=F0;go_at_call 173;refine (ftakeK_y HC.out W0.out F0.out H1.out).mono ?_;rintro e y1 ⟨rfl,f1⟩;have F1:=hid f1;have Z1:=hid (f1.box (Nat.le_refl _) (by simp) ZB.out);have c1_0:=(cell_blk (i:=0) Z1.out).trans rfl;have c1_1:=(cell_blk (i:=1) Z1.out).trans rfl;have c1_2:=(cell_blk (i:=2) Z1.out).trans rfl;have c1_3:=(cell_blk (i:=3) Z1.out).trans rfl;have c1_4:=(cell_blk (i:=4) Z1.out).trans rfl;have c1_5:=(cell_blk (i:=5) Z1.out).trans rfl;clear f1))
   refine ⟨rfl,?_⟩
   rw [EE.out]
   exact ⟨rfl,FE.back HH.out HB.out fz⟩
  | some s2 =>
   have H2:=hid h2
   clear h2
   have EE:Hid (r=some s2):=by show r=_;rw [hr.out];simp only [H1.out,H2.out,Option.bind_some]
   go_enter Tryz.func220,Tryz.ntmps220
   go_wp2_with (first
    | (have:=P1i;go_at_call 213;refine (fput_y HC.out W1.out (tok1 _) P1i.out H2.out).mono ?_;rintro e y2 ⟨rfl,f2⟩;have F2:=hid f2;have Z2:=hid (f2.box (Nat.le_refl _) (by simp) ZB.out);have c2_0:=(cell_blk (i:=0) Z2.out).trans rfl;have c2_1:=(cell_blk (i:=1) Z2.out).trans rfl;have c2_2:=(cell_blk (i:=2) Z2.out).trans rfl;have c2_3:=(cell_blk (i:=3) Z2.out).trans rfl;have c2_4:=(cell_blk (i:=4) Z2.out).trans rfl;have c2_5:=(cell_blk (i:=5) Z2.out).trans rfl;clear f2)
    | (have:=F1;go_at_call 214;refine (fint_any _).mono ?_;rintro e wp1 ⟨rfl,bp1⟩;have P1i:=hid (FX.bl F1.out bp1);have Zp1:=hid (P1i.out.box (Nat.le_refl _) (by simp) ZB.out);clear bp1)
    | (have:=F0;go_at_call 173;refine (ftakeK_y HC.out W0.out F0.out H1.out).mono ?_;rintro e y1 ⟨rfl,f1⟩;have F1:=hid f1;have Z1:=hid (f1.box (Nat.le_refl _) (by simp) ZB.out);have c1_0:=(cell_blk (i:=0) Z1.out).trans rfl;have c1_1:=(cell_blk (i:=1) Z1.out).trans rfl;have c1_2:=(cell_blk (i:=2) Z1.out).trans rfl;have c1_3:=(cell_blk (i:=3) Z1.out).trans rfl;have c1_4:=(cell_blk (i:=4) Z1.out).trans rfl;have c1_5:=(cell_blk (i:=5) Z1.out).trans rfl;clear f1))
   go_end0
   rw [EE.out]
   exact ⟨rfl,FX.back HH.out HB.out F2.out⟩
end
end
section
section
variable {X:Nat→Prop} {wx w0 w1:World} {g:Gf} {b0:Nat} {w:World} {cur s:As} {at':Int} {st:List (Option As)} {wt:List Int} {f:Fi} {m:Me} {v t:Ty} {k:Int}
theorem fwork4 (C:Cx w0 w1 g f m) (W:Wq f m cur) (ia:Nat) (ib ic ii:Int) (A0:Option Addr) (n0 k0:Nat) (ha:ia<cur.slots.length) (hb:1≤ib∧ib≤3) (H:FX X wx w1 g b0 w cur at' st wt) :
  Calls Tryz.prog 176 #[.pointer (some ⟨g.q,0,none⟩),insV 4 ia ib ic ii (.slice A0 n0 k0)] w fun e w'=>AsQ X wx w1 g b0 at' st wt (if (nth ty0 cur.slots ia).kind=ib then putT m.stack (nth ty0 cur.slots ia) cur else none) e w':=by
 have HB:Hid (Bl w (w.alloc (insO 4 ia ib ic ii (.slice A0 n0 k0)))):=(Bl.refl w).alloc _
 have F0:=hid ((H.wide HB.out).bl (Bl.refl _).drew)
 have HC:=hid C
 have HH:=hid H
 have W0:=hid W
 have ZB:=hid (mblk (w:=w) (cs:=#[.int .i64 4,.int .i64 (ia:Int),.int .i64 ib,.int .i64 ic,.int .i64 ii,.slice A0 n0 k0]) (t:=55) rfl)
 have HA:=hid ha
 have HT:Hid ((nth ty0 cur.slots ia).kind=ib→tyOk f.classes.length (nth ty0 cur.slots ia)):=fun e=>⟨(W.wf.sl _ (nth_mem ha)).1,by omega,by omega⟩
 have q0:=HC.out.q0 F0.out
 have z1:(w.alloc (insO 4 ia ib ic ii (.slice A0 n0 k0))).cell? ⟨w.heap.size,1,none⟩=some (.int .i64 (ia:Int)):=(cell_blk ZB.out).trans rfl
 have z2:(w.alloc (insO 4 ia ib ic ii (.slice A0 n0 k0))).cell? ⟨w.heap.size,2,none⟩=some (.int .i64 ib):=(cell_blk ZB.out).trans rfl
 obtain ⟨r,hr⟩:∃r,r=(if (nth ty0 cur.slots ia).kind=ib then putT m.stack (nth ty0 cur.slots ia) cur else none):=⟨_,rfl⟩
 rw [←hr]
 replace hr:=hid hr
 clear C W H ha hb
 go_enter Tryz.func176,Tryz.ntmps176
 go_wp2
 refine wp_region_held_drew (S:=fun w'=>w'.cell? ⟨g.q,0,none⟩=some (.pointer (some ⟨g.p,0,none⟩))∧w'.cell? ⟨w.heap.size,1,none⟩=some (.int .i64 (ia:Int))∧w'.cell? ⟨w.heap.size,2,none⟩=some (.int .i64 ib)) (by kernel_rfl) ?_ (fun hHeld0=>?_)
 ·exact ⟨q0,z1,z2⟩
 iterate 11 (refine tn rfl (by kernel_rfl) (fun _ _ _ h=>h) (by intro _ h;go_split_ands;go_simp<;>with_reducible rfl) hHeld0 ?_;try simp only [aZ])
 refine rd1 (i:=11) (by kernel_rfl) rfl fun K hK=>?_
 go_simp
 go_at_call 217
 refine (cread_any F0.out ia ib HA.out).mono ?_
 rintro e w2 ⟨he,b2⟩
 have F1:=hid (FX.bl F0.out b2)
 clear b2
 by_cases hk:(nth ty0 cur.slots ia).kind=ib
 ·rw [if_pos hk] at he
  subst he
  have HP:=hid (HT.out hk)
  have E1:Hid (r=putT m.stack (nth ty0 cur.slots ia) cur):=by show r=_;rw [hr.out,if_pos hk]
  clear hk
  have Z1:=hid (F1.out.box (Nat.le_refl _) (by simp) ZB.out)
  refine hK.out _ _ ⟨HC.out.q0 F1.out,(cell_blk Z1.out).trans rfl,(cell_blk Z1.out).trans rfl⟩ (fun hHeld1=>?_)
  try simp only [aZ]
  refine rd1 (i:=12) (by kernel_rfl) rfl fun K hK=>?_
  go_simp
  go_at_call 213
  cases h2:putT m.stack (nth ty0 cur.slots ia) cur with
  | none =>
   refine (fput_n HC.out W0.out HP.out F1.out h2).mono ?_
   rintro e w3 ⟨rfl,f3⟩
   refine ⟨rfl,?_⟩
   rw [E1.out,h2]
   exact ⟨rfl,FE.back HH.out HB.out f3⟩
  | some s2 =>
   refine (fput_y HC.out W0.out HP.out F1.out h2).mono ?_
   rintro e w3 ⟨rfl,f3⟩
   have Z3:=hid (f3.box (Nat.le_refl _) (by simp) ZB.out)
   refine hK.out _ _ ⟨HC.out.q0 f3,(cell_blk Z3.out).trans rfl,(cell_blk Z3.out).trans rfl⟩ (fun hHeld2=>?_)
   try simp only [aZ]
   refine wpAnyH_done (by kernel_rfl) ?_ _
   have F3:=hid f3
   have H2:=hid h2
   clear f3 h2
   go_wp2
   go_end0
   rw [E1.out,H2.out]
   exact ⟨rfl,FX.back HH.out HB.out F3.out⟩
 ·rw [if_neg hk] at he
  subst he
  refine ⟨rfl,?_⟩
  rw [hr.out,if_neg hk]
  exact ⟨rfl,FE.back HH.out HB.out F1.out.fe⟩
theorem fwork5 (C:Cx w0 w1 g f m) (W:Wq f m cur) (ia:Nat) (ib ic ii:Int) (A0:Option Addr) (n0 k0:Nat) (ha:ia<cur.slots.length) (hb:ib=2→ia+1<cur.slots.length) (hb0:w1.heap.size≤b0) (hsl:cur.slots.length≤1000) (H:FX X wx w1 g b0 w cur at' st wt) :
  Calls Tryz.prog 176 #[.pointer (some ⟨g.q,0,none⟩),insV 5 ia ib ic ii (.slice A0 n0 k0)] w fun e w'=>AsQ X wx w1 g b0 at' st wt ((takeK ib cur).bind fun p=>some { p.2 with slots:=wrT p.2.slots ia p.1 }) e w':=by
 have HB:Hid (Bl w (w.alloc (insO 5 ia ib ic ii (.slice A0 n0 k0)))):=(Bl.refl w).alloc _
 have F0:=hid ((H.wide HB.out).bl (Bl.refl _).drew)
 have HC:=hid C
 have HH:=hid H
 have W0:=hid W
 have ZB:=hid (mblk (w:=w) (cs:=#[.int .i64 5,.int .i64 (ia:Int),.int .i64 ib,.int .i64 ic,.int .i64 ii,.slice A0 n0 k0]) (t:=55) rfl)
 have HA:=hid (And.intro ha (And.intro hb (And.intro hb0 hsl)))
 have q0:=HC.out.q0 F0.out
 have z1:(w.alloc (insO 5 ia ib ic ii (.slice A0 n0 k0))).cell? ⟨w.heap.size,1,none⟩=some (.int .i64 (ia:Int)):=(cell_blk ZB.out).trans rfl
 have z2:(w.alloc (insO 5 ia ib ic ii (.slice A0 n0 k0))).cell? ⟨w.heap.size,2,none⟩=some (.int .i64 ib):=(cell_blk ZB.out).trans rfl
 obtain ⟨r,hr⟩:∃r,r=((takeK ib cur).bind fun p=>some { p.2 with slots:=wrT p.2.slots ia p.1 }):=⟨_,rfl⟩
 rw [←hr]
 replace hr:=hid hr
 clear C W H ha hb hb0 hsl
 go_enter Tryz.func176,Tryz.ntmps176
 go_wp2
 refine wp_region_held_drew (S:=fun w'=>w'.cell? ⟨g.q,0,none⟩=some (.pointer (some ⟨g.p,0,none⟩))∧w'.cell? ⟨w.heap.size,1,none⟩=some (.int .i64 (ia:Int))∧w'.cell? ⟨w.heap.size,2,none⟩=some (.int .i64 ib)) (by kernel_rfl) ?_ (fun hHeld0=>?_)
 ·exact ⟨q0,z1,z2⟩
 iterate 11 (refine tn rfl (by kernel_rfl) (fun _ _ _ h=>h) (by intro _ h;go_split_ands;go_simp<;>with_reducible rfl) hHeld0 ?_;try simp only [aZ])
 refine rd1 (i:=11) (by kernel_rfl) rfl fun K hK=>?_
 go_simp
 go_at_call 173
 cases h1:takeK ib cur with
 | none =>
  refine (ftakeK_n HC.out W0.out F0.out h1).mono ?_
  rintro e w2 ⟨rfl,f2⟩
  refine ⟨rfl,?_⟩
  rw [hr.out,h1]
  exact ⟨rfl,FE.back HH.out HB.out f2⟩
 | some p =>
  obtain ⟨v1,s1⟩:=p
  refine (ftakeK_y HC.out W0.out F0.out h1).mono ?_
  rintro e w2 ⟨rfl,f2⟩
  have hs:=(takeK_app h1).2.1
  have hk:=(takeK_app h1).2.2
  have W1:=(W0.out.takeK h1).1
  have E1:Hid (r=some ⟨wrT s1.slots ia v1,s1.stk⟩):=by show r=_;rw [hr.out,h1];rfl
  have F2:=hid f2
  have HWr:=hid (fun (w':World) (hf:FX (Xf X w.heap.size (w.alloc (insO 5 ia ib ic ii (.slice A0 n0 k0))).heap.size) (w.alloc (insO 5 ia ib ic ii (.slice A0 n0 k0))) w1 g b0 w' s1 at' st wt)=>cwrite_any hf HA.out.2.2.1 ia v1 (by rw [hs];exact HA.out.1) (by rw [hs];exact HA.out.2.2.2) W1.wf.pair (fun e=>by rw [hs];exact HA.out.2.1 (hk.symm.trans e)))
  have Z2:=hid (f2.box (Nat.le_refl _) (by simp) ZB.out)
  clear f2 h1 hs hk W1
  refine hK.out _ _ ⟨HC.out.q0 F2.out,(cell_blk Z2.out).trans rfl,(cell_blk Z2.out).trans rfl⟩ (fun hHeld1=>?_)
  try simp only [aZ]
  refine rd1 (i:=12) (by kernel_rfl) rfl fun K hK=>?_
  go_simp
  go_at_call 202
  refine (HWr.out _ F2.out).mono ?_
  rintro e w3 ⟨rfl,f3⟩
  have Z3:=hid (f3.box (Nat.le_refl _) (by simp) ZB.out)
  refine hK.out _ _ ⟨HC.out.q0 f3,(cell_blk Z3.out).trans rfl,(cell_blk Z3.out).trans rfl⟩ (fun hHeld2=>?_)
  try simp only [aZ]
  refine wpAnyH_done (by kernel_rfl) ?_ _
  have F3:=hid f3
  clear f3
  go_wp2
  go_end0
  rw [E1.out]
  exact ⟨rfl,FX.back HH.out HB.out F3.out⟩
theorem fwork23 (C:Cx w0 w1 g f m) (W:Wq f m cur) (ia ib ic ii:Int) (A0:Option Addr) (n0 k0:Nat) (H:FX X wx w1 g b0 w cur at' st wt) :
  Calls Tryz.prog 176 #[.pointer (some ⟨g.q,0,none⟩),insV 23 ia ib ic ii (.slice A0 n0 k0)] w fun e w'=>AsQ X wx w1 g b0 at' st wt ((takeT cur).bind fun p=>(putT m.stack p.1 p.2).bind fun q=>putT m.stack p.1 q) e w':=by
 have HB:Hid (Bl w (w.alloc (insO 23 ia ib ic ii (.slice A0 n0 k0)))):=(Bl.refl w).alloc _
 have F0:=hid (H.wide HB.out)
 have HC:=hid C
 have HH:=hid H
 have W0:=hid W
 have hm30:m.stack≤30:=(smeP C.me).2.1
 obtain ⟨r,hr⟩:∃r,r=((takeT cur).bind fun p=>(putT m.stack p.1 p.2).bind fun q=>putT m.stack p.1 q):=⟨_,rfl⟩
 rw [←hr]
 replace hr:=hid hr
 clear C W H
 cases h1:takeT cur with
 | none =>
  have H1:=hid h1
  have EE:Hid (r=none):=by show r=_;rw [hr.out,h1];rfl
  clear h1
  go_enter Tryz.func176,Tryz.ntmps176
  go_wp2_with (go_at_call 210;refine (ftake_n HC.out W0.out F0.out H1.out).mono ?_;rintro e wz ⟨rfl,fz⟩)
  refine ⟨rfl,?_⟩
  rw [EE.out]
  exact ⟨rfl,FE.back HH.out HB.out fz⟩
 | some p =>
  obtain ⟨v1,s1⟩:=p
  have H1:=hid h1
  have W1:=hid (W0.out.take h1).1
  have T1:=hid (W0.out.take h1).2
  have E1:Hid (r=(putT m.stack v1 s1).bind fun q=>putT m.stack v1 q):=by show r=_;rw [hr.out,h1];rfl
  clear h1
  cases h2:putT m.stack v1 s1 with
  | none =>
   have H2:=hid h2
   have EE:Hid (r=none):=by show r=_;rw [E1.out,h2];rfl
   clear h2
   go_enter Tryz.func176,Tryz.ntmps176
   go_wp2_with (first
    | (have:=F1;go_at_call 213;refine (fput_n HC.out W1.out T1.out ((F1.out.wide ((Bl.refl y1).alloc (fvO v1)))) H2.out).mono ?_;rintro e wz ⟨rfl,fz⟩)
    | (go_at_call 210;refine (ftake_y HC.out W0.out F0.out H1.out).mono ?_;rintro e y1 ⟨rfl,f1⟩;have F1:=hid f1;clear f1))
   refine ⟨rfl,?_⟩
   rw [EE.out]
   exact ⟨rfl,FE.back HH.out HB.out (FE.back F1.out ((Bl.refl y1).alloc (fvO v1)) fz)⟩
  | some s2 =>
   have H2:=hid h2
   have W2:=hid (W1.out.put hm30 T1.out h2)
   have E2:Hid (r=putT m.stack v1 s2):=by show r=_;rw [E1.out,h2];rfl
   clear h2
   cases h3:putT m.stack v1 s2 with
   | none =>
    have H3:=hid h3
    have EE:Hid (r=none):=by show r=_;rw [E2.out,h3]
    clear h3
    go_enter Tryz.func176,Tryz.ntmps176
    go_wp2_with (first
     | (have:=F2;go_at_call 213;refine (fput_n HC.out W2.out T1.out F2.out H3.out).mono ?_;rintro e wz ⟨rfl,fz⟩)
     | (have:=F1;go_at_call 213;refine (fput_y HC.out W1.out T1.out ((F1.out.wide ((Bl.refl y1).alloc (fvO v1)))) H2.out).mono ?_;rintro e y2 ⟨rfl,f2⟩;have F2:=hid f2;have Z2:=hid (f2.box (Nat.le_refl _) (by simp) (mblk (w:=y1) (cs:=#[.int .i64 v1.kind,.int .i64 v1.cls]) (t:=233) rfl));have d0:=c0_of Z2.out;have d1:=c1_of Z2.out;clear f2)
     | (go_at_call 210;refine (ftake_y HC.out W0.out F0.out H1.out).mono ?_;rintro e y1 ⟨rfl,f1⟩;have F1:=hid f1;clear f1))
    refine ⟨rfl,?_⟩
    rw [EE.out]
    exact ⟨rfl,FE.back HH.out HB.out (FE.back F1.out ((Bl.refl y1).alloc (fvO v1)) fz)⟩
   | some s3 =>
    have H3:=hid h3
    have EE:Hid (r=some s3):=by show r=_;rw [E2.out,h3]
    clear h3
    go_enter Tryz.func176,Tryz.ntmps176
    go_wp2_with (first
     | (have:=F2;go_at_call 213;refine (fput_y HC.out W2.out T1.out F2.out H3.out).mono ?_;rintro e y3 ⟨rfl,f3⟩;have F3:=hid f3;clear f3)
     | (have:=F1;go_at_call 213;refine (fput_y HC.out W1.out T1.out ((F1.out.wide ((Bl.refl y1).alloc (fvO v1)))) H2.out).mono ?_;rintro e y2 ⟨rfl,f2⟩;have F2:=hid f2;have Z2:=hid (f2.box (Nat.le_refl _) (by simp) (mblk (w:=y1) (cs:=#[.int .i64 v1.kind,.int .i64 v1.cls]) (t:=233) rfl));have d0:=c0_of Z2.out;have d1:=c1_of Z2.out;clear f2)
     | (go_at_call 210;refine (ftake_y HC.out W0.out F0.out H1.out).mono ?_;rintro e y1 ⟨rfl,f1⟩;have F1:=hid f1;clear f1))
    go_end0
    rw [EE.out]
    exact ⟨rfl,FX.back HH.out HB.out (FX.back F1.out ((Bl.refl y1).alloc (fvO v1)) F3.out)⟩
end
end
section
abbrev fmeV (x:Me) (P C K:Option Addr) (p c k:Nat):Value:=.agg #[.slice P x.params.length p,.int .i64 x.ret.kind,.int .i64 x.ret.cls,.int .i64 x.stack,.int .i64 x.locs,.int .i64 x.regs,.slice C x.code.length c,.slice K x.hands.length k]
abbrev fmeO (x:Me) (P C K:Option Addr) (p c k:Nat):Obj:=.cells #[.slice P x.params.length p,.int .i64 x.ret.kind,.int .i64 x.ret.cls,.int .i64 x.stack,.int .i64 x.locs,.int .i64 x.regs,.slice C x.code.length c,.slice K x.hands.length k] 49
section
variable {X:Nat→Prop} {wx w0 w1:World} {g:Gf} {b0:Nat} {w:World} {cur s:As} {at':Int} {st:List (Option As)} {wt:List Int} {f:Fi} {m:Me} {v t:Ty} {k:Int}
theorem fcall_any (C:Cx w0 w1 g f m) (W:Wq f m cur) (x:Me) (hx:smeB f.classes f.methods.length x=true) (P Cd Kh:Option Addr) (pc cc kc:Nat) (hP:TysAt w0 P x.params) (H:FX X wx w1 g b0 w cur at' st wt) :
  Calls Tryz.prog 218 #[.pointer (some ⟨g.q,0,none⟩),fmeV x P Cd Kh pc cc kc] w fun e w'=>AsQ X wx w1 g b0 at' st wt ((takesY f.classes x.params x.params.length cur).bind fun q=>if x.ret.kind=0 then some q else putT m.stack x.ret q) e w':=by
 have HB:Hid (Bl w (w.alloc (fmeO x P Cd Kh pc cc kc))):=(Bl.refl w).alloc _
 have F0:=hid (H.wide HB.out)
 have HC:=hid C
 have HH:=hid H
 have hm30:m.stack≤30:=(smeP C.me).2.1
 have hsp:=smeP hx
 have hN4:=hsp.2.2.2.2.1
 have HTY:=hid (show ∀t∈x.params,tyB f.classes.length t=true from hsp.2.2.2.2.2.2.2.2.1)
 have HRT:=hid (show retB f.classes.length x.ret=true from hsp.2.2.2.2.2.2.2.2.2.2)
 have ZB:=hid (mblk (w:=w) (cs:=#[.slice P x.params.length pc,.int .i64 x.ret.kind,.int .i64 x.ret.cls,.int .i64 x.stack,.int .i64 x.locs,.int .i64 x.regs,.slice Cd x.code.length cc,.slice Kh x.hands.length kc]) (t:=49) rfl)
 have HBX:=hid (fun (w':World) (s':As) (hf:FX (Xf X w.heap.size (w.alloc (fmeO x P Cd Kh pc cc kc)).heap.size) (w.alloc (fmeO x P Cd Kh pc cc kc)) w1 g b0 w' s' at' st wt)=>hf.box (Nat.le_refl _) (by simp) ZB.out)
 have HPP:=hid hP
 have W0:=hid W
 obtain ⟨r,hr⟩:∃r,r=((takesY f.classes x.params x.params.length cur).bind fun q=>if x.ret.kind=0 then some q else putT m.stack x.ret q):=⟨_,rfl⟩
 rw [←hr]
 replace hr:=hid hr
 clear C W H hx hsp hP
 have hsub:IntKind.i64.wrap ((x.params.length:Int)-1)=(x.params.length:Int)-1:=by rw [IntKind.wrap_i64];omega
 go_enter Tryz.func218,Tryz.ntmps218
 go_wp2
 go_loopw [4] (fun i wr=>∃(k:Nat) (s':As),k≤x.params.length∧i=.int .i64 ((k:Int)-1)∧Hid (FX (Xf X w.heap.size (w.alloc (fmeO x P Cd Kh pc cc kc)).heap.size) (w.alloc (fmeO x P Cd Kh pc cc kc)) w1 g b0 wr s' at' st wt)∧Hid (Wq f m s')∧Hid (takesY f.classes x.params x.params.length cur=takesY f.classes x.params k s')) (fun i _=>(intOf i+1).toNat)
 case atStart=>exact ⟨x.params.length,cur,Nat.le_refl _,rfl,F0,W0,hid rfl⟩
 case round =>
  obtain ⟨k,s',hk,rfl,FF,WW,TT⟩:=hrel
  have zz:=hid (HBX.out _ _ FF.out)
  have y0:=(cell_blk (i:=0) zz.out).trans rfl
  have y1:=(cell_blk (i:=1) zz.out).trans rfl
  have y2:=(cell_blk (i:=2) zz.out).trans rfl
  have hwl:=cell_lt y0
  by_cases h0:k=0
  ·subst h0
   have hd:decide ((0:Int)≤((0:Nat):Int)-1)=false:=by decide
   have E1:Hid (r=if x.ret.kind=0 then some s' else putT m.stack x.ret s'):=by show r=_;rw [hr.out,TT.out];rfl
   by_cases hk0:x.ret.kind=0
   ·have E2:Hid (r=some s'):=by show r=_;rw [E1.out,if_pos hk0]
    have hz:(x.ret.kind !=0)=false:=by simpa using hk0
    clear hk0
    go_wp2
    go_end0
    rw [E2.out]
    exact ⟨rfl,FX.back HH.out HB.out FF.out⟩
   ·have hz:(x.ret.kind !=0)=true:=by simpa using hk0
    have hrt:=HRT.out
    unfold retB at hrt
    rw [Bool.or_eq_true] at hrt
    have hrt2:tyB f.classes.length x.ret=true:=hrt.resolve_left (fun e=>hk0 (of_decide_eq_true e).1)
    have T1:=hid (tyB_ok hrt2)
    cases h2:putT m.stack x.ret s' with
    | none =>
     have H2:=hid h2
     have E2:Hid (r=none):=by show r=_;rw [E1.out,if_neg hk0,h2]
     clear h2 hk0 hrt hrt2
     go_wp2_with (go_at_call 213;refine (fput_n HC.out WW.out T1.out FF.out H2.out).mono ?_;rintro e wz ⟨rfl,fz⟩)
     refine ⟨rfl,?_⟩
     rw [E2.out]
     exact ⟨rfl,FE.back HH.out HB.out fz⟩
    | some s2 =>
     have H2:=hid h2
     have E2:Hid (r=some s2):=by show r=_;rw [E1.out,if_neg hk0,h2]
     clear h2 hk0 hrt hrt2
     go_wp2_with (go_at_call 213;refine (fput_y HC.out WW.out T1.out FF.out H2.out).mono ?_;rintro e wz ⟨rfl,fz⟩)
     go_end0
     rw [E2.out]
     exact ⟨rfl,FX.back HH.out HB.out fz⟩
  ·obtain ⟨j,rfl⟩:∃j,k=j+1:=⟨k-1,by omega⟩
   have hjN:j<x.params.length:=by omega
   have hj1:((j+1:Nat):Int)-1=(j:Int):=by omega
   rw [hj1]
   rcases HPP.out.2 with h0'|⟨tb,to,hPe,htl⟩
   ·omega
   have bl:=HC.out.bl0 FF.out
   have t0:=bl.cell (htl j hjN).1
   have t1:=bl.cell (htl j hjN).2.1
   have htb:=cell_lt t0
   have hd:decide ((0:Int)≤(j:Int))=true:=by simp
   have hjj:(j:Int)<(x.params.length:Int):=by omega
   have hj0:(0:Int)≤(j:Int):=by omega
   have hsb:IntKind.i64.wrap ((j:Int)-1)=(j:Int)-1:=by rw [IntKind.wrap_i64];omega
   have HTJ:Hid ((nth ty0 x.params j).kind=3→0≤(nth ty0 x.params j).cls∧(nth ty0 x.params j).cls<f.classes.length):=fun e=>by
    have:=of_decide_eq_true (HTY.out _ (nth_mem (d:=ty0) hjN));omega
   have TS:Hid (takesY f.classes x.params (j+1) s'=(takeY f.classes (nth ty0 x.params j) s').bind fun q=>takesY f.classes x.params j q):=rfl
   subst hPe
   clear htl bl h0 hjN
   cases h2:takeY f.classes (nth ty0 x.params j) s' with
   | none =>
    have H2:=hid h2
    have E2:Hid (r=none):=by show r=_;rw [hr.out,TT.out,TS.out,h2];rfl
    clear h2
    generalize nth ty0 x.params j=tj at *
    go_wp2_with (go_at_call 212;refine (ftakeY_n HC.out WW.out HTJ.out FF.out H2.out).mono ?_;rintro e wz ⟨rfl,fz⟩)
    refine ⟨rfl,?_⟩
    rw [E2.out]
    exact ⟨rfl,FE.back HH.out HB.out fz⟩
   | some s2 =>
    have H2:=hid h2
    have T2:Hid (takesY f.classes x.params x.params.length cur=takesY f.classes x.params j s2):=by show _=_;rw [TT.out,TS.out,h2];rfl
    clear h2
    generalize nth ty0 x.params j=tj at *
    go_wp2_with (go_at_call 212;refine (ftakeY_y HC.out WW.out HTJ.out FF.out H2.out).mono ?_;rintro e wz ⟨rfl,fz⟩)
    go_roundw
    case rel=>exact ⟨j,s2,by omega,rfl,hid fz,hid (WW.out.takeY H2.out),T2⟩
    case measure=>simp [intOf]
end
end
end Go.Proofs.YtgiiapenmjollaaGreat
