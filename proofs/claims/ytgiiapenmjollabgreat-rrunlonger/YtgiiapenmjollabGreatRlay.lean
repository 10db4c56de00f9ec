import Derived.Test.YtgiiapenmjollabGreatRlav
import Derived.Test.YtgiiapenmjollabGreatRlax
namespace Go.Proofs.YtgiiapenmjollabGreat
set_option linter.all false
set_option maxHeartbeats 40000000
set_option maxRecDepth 100000
open Go.RowKit
structure Has (w0:World) (g:Mg) (h:Hp) (c:Cal) (ms:List Me) (rt:Int) (i:In):Prop where
 F:Fix w0 g h
 gh:Gh 1 h
 kd:Kd h
 gc:Gc h c
 hs:h.stops=false
 ok:InOk h.file.classes ms c.m.code.length c.m.regs rt i
 tw:InTwo h.file.classes ms c.m.regs rt i
 iok:i.ok
 mc:MayC h.file.classes
 inp:h.input.length≤1000000
theorem Has.reg {w0:World} {g:Mg} {h:Hp} {c:Cal} {ms:List Me} {rt:Int} {i:In} (S:Has w0 g h c ms rt i) {n:Int} (hn:0≤n∧n<c.m.regs):0≤n∧n<c.locs.length:=by have:=S.gc.len;omega
theorem Has.reg2 {w0:World} {g:Mg} {h:Hp} {c:Cal} {ms:List Me} {rt:Int} {i:In} (S:Has w0 g h c ms rt i) {n:Int} (hn:n+1<c.m.regs):n+1<c.locs.length:=by have:=S.gc.len;omega
theorem Has.gd {w0:World} {g:Mg} {h:Hp} {c:Cal} {ms:List Me} {rt:Int} {i:In} (S:Has w0 g h c ms rt i) {n:Int} (hn:0≤n∧n<c.m.regs):(c.rd n).kind=3→-1≤(c.rd n).n∧(c.rd n).n<h.objs.length:=(S.gc.rd hn).ref
theorem Has.ho {w0:World} {g:Mg} {h:Hp} {c:Cal} {ms:List Me} {rt:Int} {i:In} (S:Has w0 g h c ms rt i):h.over=false∧h.thrown=-1:=by
 obtain ⟨ho,ht⟩:=stops_not S.hs
 have:=S.gh.thr
 exact ⟨ho,by omega⟩
theorem value_any (X:Nat→Prop) (wx w0:World) (g:Mg) (h:Hp) (qs:List Qb) (a:Mc) (c:Cal) (op ia ib ic ii:Int) (args:List Int) (ms:List Me) (rt:Int) (Q:Option Addr) (nl q:Nat) (w:World) (H:RX 1 X wx w0 g w h qs a c) (S:Has w0 g h c ms rt ⟨op,ia,ib,ic,ii,args⟩)
  (hop:op≤9∨op=13∨op=14∨op=17∨op=19∨op=22∨op=24) :
  Calls Tryz.prog 209 #[.pointer (some ⟨a.q,0,none⟩),.agg #[.int .i64 op,.int .i64 ia,.int .i64 ib,.int .i64 ic,.int .i64 ii,.slice Q nl q]] w fun e w2=>ValQ X wx w0 g qs a c (valH h c ⟨op,ia,ib,ic,ii,args⟩) (valV h c ⟨op,ia,ib,ic,ii,args⟩) e w2:=by
 have h1:1≤op:=S.ok.op.1
 have hb:=S.ok.b
 have hc:=S.ok.c
 have hm:=S.ok.move
 have b2:=S.tw.b2
 have c2:=S.tw.c2
 have hfl:=S.ok.fld
 dsimp only at hb hc hm b2 c2 hfl
 have hob:=S.gh.len
 rcases (by omega:op=1∨op=2∨op=3∨op=4∨op=5∨op=6∨op=7∨op=8∨op=9∨op=13∨op=14∨op=17∨op=19∨op=22∨op=24) with e|e|e|e|e|e|e|e|e|e|e|e|e|e|e<;>subst e
 ·exact value_op1 X wx w0 g h qs a c ia ib ic ii args Q nl q w H S.hs
 ·exact value_op2 X wx w0 g h qs a c ia ib ic ii args Q nl q w H S.hs
 ·exact value_op3 X wx w0 g h qs a c ia ib ic ii args Q nl q w H S.hs
 ·exact value_op4 X wx w0 g h qs a c ia ib ic ii args Q nl q w H S.hs (S.reg (hb (by omega))) (hm rfl) (fun x=>S.reg2 (b2 (Or.inl ⟨rfl,x⟩)))
 ·exact value_op5 X wx w0 g h qs a c ia ib ic ii args Q nl q w H S.hs (S.reg (hb (by omega))) (S.reg (hc (by omega))) hob
 ·exact value_op6 X wx w0 g h qs a c ia ib ic ii args Q nl q w H S.hs (S.reg (hb (by omega))) (S.reg (hc (by omega))) hob ⟨S.reg2 (b2 (by omega)),S.reg2 (c2 (by omega))⟩
 ·exact value_op7 X wx w0 g h qs a c ia ib ic ii args Q nl q w H S.hs (S.reg (hb (by omega)))
 ·exact value_op8 X wx w0 g h qs a c ia ib ic ii args Q nl q w H S.hs (S.reg (hb (by omega))) (S.reg2 (b2 (by omega)))
 ·exact value_op9 X wx w0 g h qs a c ia ib ic ii args Q nl q w H S.hs (S.reg (hb (by omega))) (S.reg (hc (by omega))) ⟨S.reg2 (b2 (by omega)),S.reg2 (c2 (by omega))⟩
 ·exact value_op13 X wx w0 g h qs a c ia ib ic ii args Q nl q w H S.hs hob
 ·exact value_op14 X wx w0 g h qs a c ia ib ic ii args Q nl q w H S.hs (S.reg (hb (by omega))) S.F hob (S.gd (hb (by omega))) (hfl (by omega))
 ·exact value_op17 X wx w0 g h qs a c ia ib ic ii args Q nl q w H S.hs (S.reg (hb (by omega))) S.F hob (S.gd (hb (by omega)))
 ·exact value_op19 X wx w0 g h qs a c ia ib ic ii args Q nl q w H S.hs
 ·exact value_op22 X wx w0 g h qs a c ia ib ic ii args Q nl q w H S.hs
 ·exact value_op24 X wx w0 g h qs a c ia ib ic ii args Q nl q w H S.hs S.F.inp S.gh.used S.inp
theorem find_go {h:Hp} {v:Va} {cc:Int} (hs:h.stops=false) (hf:(h.findH v cc).stops=false):h.of v ⟨3,cc⟩=true∧¬v.n<0:=by
 obtain ⟨ho,-⟩:=stops_not hs
 cases hz:h.of v ⟨3,cc⟩ with
 | false =>
  have e:h.findH v cc=h.fin 6:=by unfold Hp.findH Hp.mustB;rw [hz,Bool.false_and,if_neg (by decide),must_no rfl]
  rw [e,fin_stops hs 6] at hf
  cases hf
 | true =>
  refine ⟨rfl,fun hn=>?_⟩
  have e:h.findH v cc=h.raise 1:=by unfold Hp.findH;rw [hz,if_pos (by unfold Hp.mustB;rw [ho];rfl),if_pos hn]
  rw [e,(raise_how hs 1 va0).2] at hf
  cases hf
theorem val_kind {X:Nat→Prop} {wx w0:World} {g:Mg} {h:Hp} {qs:List Qb} {a:Mc} {c:Cal} {i:In} {ms:List Me} {rt:Int} {w:World} (H:RX 1 X wx w0 g w h qs a c) (S:Has w0 g h c ms rt i)
  (hop:i.op≤9∨i.op=13∨i.op=14∨i.op=17∨i.op=19∨i.op=22∨i.op=24) (hs:(valH h c i).stops=false):1≤(valV h c i).kind∧(valV h c i).kind≤3:=by
 have h1:1≤i.op:=S.ok.op.1
 obtain ⟨ho,hth⟩:=S.ho
 have hso:=(stops_not hs).1
 have c1:∀k n:Int,1≤k∧k≤3→1≤(⟨k,n⟩:Va).kind∧(⟨k,n⟩:Va).kind≤3:=fun k n x=>x
 rcases (by omega:i.op=1∨i.op=2∨i.op=3∨i.op=4∨i.op=5∨i.op=6∨i.op=7∨i.op=8∨i.op=9∨i.op=13∨i.op=14∨i.op=17∨i.op=19∨i.op=22∨i.op=24) with e|e|e|e|e|e|e|e|e|e|e|e|e|e|e
 ·rw [show valV h c i=⟨1,i.n⟩ from by simp [valV,givesV,e]];exact c1 _ _ (by omega)
 ·rw [show valV h c i=⟨2,i.n⟩ from by simp [valV,givesV,e]];exact c1 _ _ (by omega)
 ·rw [show valV h c i=⟨3,-1⟩ from by simp [valV,givesV,e]];exact c1 _ _ (by omega)
 ·rw [show valV h c i=c.rd i.b from by simp [valV,givesV,e]]
  rw [show valH h c i=h.rdH c i.b i.c from by simp [valH,givesH,e]] at hso
  have:=(rdH_go hso).1
  have:=S.ok.move e
  omega
 ·rw [show valV h c i=h.reckV (c.rd i.b) (c.rd i.c) 1 i.n from by simp [valV,givesV,e]]
  rw [show valH h c i=h.reckH (c.rd i.b) (c.rd i.c) 1 i.n from by simp [valH,givesH,e]] at hs
  rw [reck_go hs ho hth];omega
 ·rw [show valV h c i=h.reckV (c.rd i.b) (c.rd i.c) 2 i.n from by simp [valV,givesV,e]]
  rw [show valH h c i=h.reckH (c.rd i.b) (c.rd i.c) 2 i.n from by simp [valH,givesH,e]] at hs
  rw [reck_go hs ho hth];omega
 ·rw [show valV h c i=⟨2,(c.rd i.b).n⟩ from by simp [valV,givesV,e]];exact c1 _ _ (by omega)
 ·rw [show valV h c i=⟨1,wrap32 (c.rd i.b).n⟩ from by simp [valV,givesV,e]];exact c1 _ _ (by omega)
 ·rw [show valV h c i=⟨1,cmpV (c.rd i.b).n (c.rd i.c).n⟩ from by simp [valV,givesV,e]];exact c1 _ _ (by omega)
 ·rw [show valV h c i=h.newV from by simp [valV,givesV,e]]
  rw [show valH h c i=h.new i.b from by simp [valH,givesH,e]] at hso
  unfold Hp.newV
  split
  ·rename_i hf
   unfold Hp.new at hso
   rw [if_pos hf,(fin6 ho 4).1] at hso
   cases hso
  ·exact c1 _ _ (by omega)
 ·have eH:valH h c i=(if (h.rdH c i.b 3).over=true then h.rdH c i.b 3 else (h.rdH c i.b 3).findH (c.rd i.b) i.c):=by simp [valH,givesH,e]
  have eV:valV h c i=(if (h.rdH c i.b 3).over=true then va0 else (h.rdH c i.b 3).getV (c.rd i.b) i.c i.n):=by simp [valV,givesV,e]
  rw [eH] at hs hso
  by_cases e1:(c.rd i.b).kind=3
  ·rw [rdH_yes e1,if_neg (by rw [ho];decide)] at hs
   rw [eV,rdH_yes e1,if_neg (by rw [ho];decide)]
   obtain ⟨hz,hn⟩:=find_go S.hs hs
   have hfl:=S.ok.fld (Or.inl e)
   obtain ⟨cc,hcc⟩:∃cc:Nat,i.c=cc:=⟨i.c.toNat,by omega⟩
   obtain ⟨k,hk⟩:∃k:Nat,i.n=k:=⟨i.n.toNat,by omega⟩
   rw [hcc,hk] at hfl ⊢
   rw [hcc] at hz
   rw [Int.toNat_natCast] at hfl
   have hkf:k<(nth cl0 h.file.classes cc).fields.length:=by omega
   have hv2:=(S.gd (S.ok.b (by omega)) e1).2
   obtain ⟨o,j,q1,q2,q3,q4,q5,q6,q7⟩:=get_at H hz (by unfold Hp.mustB;rw [ho];rfl) hn hv2 hkf
   have hol:o<h.objs.length:=q2
   rw [q7,S.kd _ (nth_mem (d:=ob0) hol) _ (nth_mem (d:=hel0) q3),q5,q6]
   exact field_kind S.F.may (by omega) hkf
  ·rw [rdH_no e1,if_pos (fin6 ho 6).1,(fin6 ho 6).1] at hso
   cases hso
 ·have eV:valV h c i=(if (h.rdH c i.b 3).over=true then va0 else (h.rdH c i.b 3).isV (c.rd i.b) i.c):=by simp [valV,givesV,e]
  have eH:valH h c i=(if (h.rdH c i.b 3).over=true then h.rdH c i.b 3 else (h.rdH c i.b 3).must (isRef (c.rd i.b))):=by simp [valH,givesH,e]
  rw [eV]
  rw [eH] at hso
  split
  ·rename_i hx;rw [if_pos hx,hx] at hso;cases hso
  ·exact c1 _ _ (by omega)
 ·rw [show valV h c i=c.giv from by simp [valV,e]]
  rw [show valH h c i=h.must (decide (c.giv.kind=i.b)) from by simp [valH,e]] at hso
  have:=of_decide_eq_true (must_go hso).1
  have:=S.ok.res e
  omega
 ·rw [show valV h c i=c.cau from by simp [valV,e]]
  rw [show valH h c i=h.must (isRef c.cau) from by simp [valH,e]] at hso
  have:=of_decide_eq_true (must_go hso).1
  omega
 ·rw [show valV h c i=h.inV from by simp [valV,givesV,e]]
  rw [show valH h c i=h.input' from by simp [valH,givesH,e]] at hso
  unfold Hp.inV
  split
  ·rename_i hd
   unfold Hp.input' at hso
   rw [if_pos hd,(fin6 ho 3).1] at hso
   cases hso
  ·exact c1 _ _ (by omega)
theorem rdH_over {h:Hp} (ho:h.over=true) (c:Cal) (n k:Int):h.rdH c n k=h:=by
 unfold Hp.rdH Hp.must
 split
 ·rfl
 ·unfold Hp.fin;rw [if_pos ho]
theorem put_bad {h:Hp} {c:Cal} {i:In} (hs:h.stops=false) (hn:h.of (c.rd i.a) (fieldT h.file.classes i.c i.n)=false∨h.of (c.rd i.b) ⟨3,i.c⟩=false):(putP h c i).h=h.fin 6:=by
 obtain ⟨ho,-⟩:=stops_not hs
 have ho6:=(fin6 ho 6).1
 unfold putP
 dsimp only
 by_cases e1:(c.rd i.b).kind=3
 ·rw [rdH_yes e1]
  by_cases e2:(c.rd i.a).kind=(fieldT h.file.classes i.c i.n).kind
  ·rw [rdH_yes e2,if_neg (by rw [ho];decide)]
   unfold Hp.put
   cases hv:h.of (c.rd i.a) (fieldT h.file.classes i.c i.n) with
   | false=>rw [if_neg (by unfold Hp.mustB;simp),must_no rfl]
   | true =>
    have hu:h.of (c.rd i.b) ⟨3,i.c⟩=false:=by
     rcases hn with q|q
     ·rw [q] at hv;cases hv
     ·exact q
    rw [if_pos (by unfold Hp.mustB;rw [ho];rfl),if_pos]
    ·unfold Hp.findH Hp.mustB;rw [hu,Bool.false_and,if_neg (by decide),must_no rfl]
    ·unfold Hp.findN Hp.mustB;rw [hu,Bool.false_and,if_neg (by decide)];decide
  ·rw [rdH_no e2,if_pos ho6]
 ·rw [rdH_no e1,rdH_over ho6,if_pos ho6]
theorem put_ok {h:Hp} {c:Cal} {i:In} (hs:h.stops=false) (hv:h.of (c.rd i.a) (fieldT h.file.classes i.c i.n)=true) (hu:h.of (c.rd i.b) ⟨3,i.c⟩=true):(putP h c i).h=if h.findN (c.rd i.b) i.c i.n<0 then h.findH (c.rd i.b) i.c else (h.findH (c.rd i.b) i.c).setV (c.rd i.b).n.toNat (h.findN (c.rd i.b) i.c i.n).toNat (c.rd i.a):=by
 obtain ⟨ho,-⟩:=stops_not hs
 have e1:(c.rd i.b).kind=3:=of_ref hu
 have e2:(c.rd i.a).kind=(fieldT h.file.classes i.c i.n).kind:=by
  have:=hv
  unfold Hp.of at this
  rw [Bool.and_eq_true] at this
  exact of_decide_eq_true this.1
 unfold putP
 dsimp only
 rw [rdH_yes e1,rdH_yes e2,if_neg (by rw [ho];decide)]
 unfold Hp.put
 rw [hv,if_pos (by unfold Hp.mustB;rw [ho];rfl)]
theorem put_rest (h:Hp) (c:Cal) (i:In):putP h c i=⟨(putP h c i).h,c.clr,c.pc+1⟩:=rfl
theorem work_op15 (X:Nat→Prop) (wx w0:World) (g:Mg) (h:Hp) (qs:List Qb) (a:Mc) (c:Cal) (ia ib ic ii:Int) (args:List Int) (ms:List Me) (rt:Int) (Q:Option Addr) (nl q:Nat) (w:World) (H:RX 1 X wx w0 g w h qs a c) (S:Has w0 g h c ms rt ⟨15,ia,ib,ic,ii,args⟩) :
  Calls Tryz.prog 142 #[.pointer (some ⟨a.q,0,none⟩),.agg #[.int .i64 15,.int .i64 ia,.int .i64 ib,.int .i64 ic,.int .i64 ii,.slice Q nl q]] w fun e w'=>DidQ X wx w0 g qs a c (doesP h c ⟨15,ia,ib,ic,ii,args⟩) e w':=by
 have hs:=S.hs
 have ho:=S.ho.1
 have hd:doesP h c ⟨15,ia,ib,ic,ii,args⟩=putP h c ⟨15,ia,ib,ic,ii,args⟩:=rfl
 rw [hd,put_rest]
 have ha:=S.ok.a (Or.inr (Or.inl ⟨by show (13:Int)≤15;decide,by show (15:Int)≤17;decide⟩))
 have hb:=S.ok.b (Or.inr (Or.inr (Or.inl rfl)))
 have hfl:=S.ok.fld (Or.inr rfl)
 have h2:(fieldT h.file.classes ic ii).kind=2→ia+1<c.locs.length:=fun x=>S.reg2 (S.tw.a2 (Or.inl ⟨rfl,x⟩))
 dsimp only at ha hb hfl
 have hva:=S.gd ha
 have hvb:=S.gd hb
 cases hv:h.of (c.rd ia) (fieldT h.file.classes ic ii) with
 | false =>
  rw [put_bad hs (Or.inl hv)]
  exact work_op15a X wx w0 g h qs a c ia ib ic ii args Q nl q w H hs (S.reg ha) (S.reg hb) S.F S.gh.len hva hvb hfl h2 hv
 | true =>
  cases hu:h.of (c.rd ib) ⟨3,ic⟩ with
  | false =>
   rw [put_bad hs (Or.inr hu)]
   exact work_op15b X wx w0 g h qs a c ia ib ic ii args Q nl q w H hs (S.reg ha) (S.reg hb) S.F S.gh.len hva hvb hfl h2 hv hu
  | true =>
   rw [put_ok hs hv hu]
   dsimp only
   have hm:h.mustB true=true:=by unfold Hp.mustB;rw [ho];rfl
   by_cases hn:(c.rd ib).n<0
   ·have e1:h.findN (c.rd ib) ic ii<0:=by unfold Hp.findN;rw [hu,if_pos hm,if_pos hn];decide
    have e2:h.findH (c.rd ib) ic=h.raise 1:=by unfold Hp.findH;rw [hu,if_pos hm,if_pos hn]
    rw [if_pos e1,e2]
    exact work_op15c X wx w0 g h qs a c ia ib ic ii args Q nl q w H hs (S.reg ha) (S.reg hb) S.F S.gh.len hva hvb hfl h2 hv hu hn
   ·obtain ⟨cc,rfl⟩:∃cc:Nat,ic=cc:=⟨ic.toNat,by omega⟩
    obtain ⟨k,rfl⟩:∃k:Nat,ii=k:=⟨ii.toNat,by omega⟩
    have hfl':=hfl
    rw [Int.toNat_natCast] at hfl
    obtain ⟨o,j,q1,q2,q3,q4,q5,q6,q7⟩:=get_at H hu hm hn (hvb (of_ref hu)).2 (by omega:k<(nth cl0 h.file.classes cc).fields.length)
    have hobj:h.obj (c.rd ib).n=nth ob0 h.objs o:=by unfold Hp.obj;rw [q1,Int.toNat_natCast]
    have e1:h.findN (c.rd ib) cc k=j:=by unfold Hp.findN;rw [hu,if_pos hm,if_neg hn,hobj];exact q4
    have e2:h.findH (c.rd ib) cc=h:=by unfold Hp.findH;rw [hu,if_pos hm,if_neg hn]
    rw [e1,if_neg (by omega),e2,q1,Int.toNat_natCast,Int.toNat_natCast]
    have hst:=S.gh.steps
    have hfu:=S.gh.fuel
    exact work_op15d X wx w0 g h qs a c ia ib cc k args Q nl q w H hs (S.reg ha) (S.reg hb) S.F S.gh.len hva hvb hfl' h2 hv hu o j q1 q2 q3 q5 q6 (by omega)
theorem work_any (X:Nat→Prop) (wx w0:World) (g:Mg) (h:Hp) (qs:List Qb) (a:Mc) (c:Cal) (op ia ib ic ii:Int) (args:List Int) (ms:List Me) (rt:Int) (Q:Option Addr) (nl q:Nat) (w:World) (H:RX 1 X wx w0 g w h qs a c) (S:Has w0 g h c ms rt ⟨op,ia,ib,ic,ii,args⟩)
  (h10:op≠10) (h11:op≠11) (h12:op≠12) (h18:op≠18) (h20:op≠20) :
  Calls Tryz.prog 142 #[.pointer (some ⟨a.q,0,none⟩),.agg #[.int .i64 op,.int .i64 ia,.int .i64 ib,.int .i64 ic,.int .i64 ii,.slice Q nl q]] w fun e w'=>DidQ X wx w0 g qs a c (doesP h c ⟨op,ia,ib,ic,ii,args⟩) e w':=by
 have hop:=S.ok.op
 have ha:=S.ok.a
 dsimp only at hop ha
 by_cases h15:op=15
 ·subst h15;exact work_op15 X wx w0 g h qs a c ia ib ic ii args ms rt Q nl q w H S
 by_cases h16:op=16
 ·subst h16;exact work_op16 X wx w0 g h qs a c ia ib ic ii args Q nl q w H S.hs (S.reg (ha (by omega))) S.F S.gh.len (S.gd (ha (by omega)))
 by_cases h21:op=21
 ·subst h21;exact work_op21 X wx w0 g h qs a c ia ib ic ii args Q nl q w H S.hs (S.reg (ha (by omega))) S.gh.len (S.gd (ha (by omega)))
 by_cases h23:op=23
 ·subst h23
  have hst:=S.gh.steps
  have hfu:=S.gh.fuel
  have hou:=S.gh.out
  exact work_op23 X wx w0 g h qs a c ia ib ic ii args Q nl q w H S.hs (S.reg (ha (by omega))) (S.ok.emit rfl) (fun x=>S.reg2 (S.tw.a2 (Or.inr ⟨rfl,x⟩))) (by omega)
 have hv:op≤9∨op=13∨op=14∨op=17∨op=19∨op=22∨op=24:=by omega
 refine work_val op X wx w0 g h qs a c ia ib ic ii args Q nl q w H S.hs (S.reg (ha (by omega))) hv (fun X wx w H=>value_any X wx w0 g h qs a c op ia ib ic ii args ms rt Q nl q w H S hv) (fun st=>val_kind H S hv st) (fun st x=>S.reg2 ?_)
 exact (val_ok S.gh S.kd S.gc S.hs S.mc S.ok S.iok hv st).2 x
section
open Go.Maps (Keyed has)
structure AtI (w:World) (a:Mc) (c:Cal) (i:In) (cb co:Nat) (Q:Option Addr) (q n:Nat):Prop where
 C:a.C=some ⟨cb,co,none⟩
 pc:c.pc=n
 lt:n<c.m.code.length
 len:c.m.code.length≤maxLen
 c0:w.cell? ⟨cb,co+n*6,none⟩=some (.int .i64 i.op)
 c1:w.cell? ⟨cb,co+n*6+1,none⟩=some (.int .i64 i.a)
 c2:w.cell? ⟨cb,co+n*6+2,none⟩=some (.int .i64 i.b)
 c3:w.cell? ⟨cb,co+n*6+3,none⟩=some (.int .i64 i.c)
 c4:w.cell? ⟨cb,co+n*6+4,none⟩=some (.int .i64 i.n)
 c5:w.cell? ⟨cb,co+n*6+5,none⟩=some (.slice Q i.args.length q)
theorem AtI.bl {w w':World} {a:Mc} {c:Cal} {i:In} {cb co:Nat} {Q:Option Addr} {q n:Nat} (H:AtI w a c i cb co Q q n) (hb:Bl w w'):AtI w' a c i cb co Q q n:=⟨H.C,H.pc,H.lt,H.len,hb.cell H.c0,hb.cell H.c1,hb.cell H.c2,hb.cell H.c3,hb.cell H.c4,hb.cell H.c5⟩
theorem RX.ati {s:Nat} {X:Nat→Prop} {wx w0 w:World} {g:Mg} {h:Hp} {qs:List Qb} {a:Mc} {c:Cal} (H:RX s X wx w0 g w h qs a c) (hp:0≤c.pc∧c.pc<c.m.code.length):∃cb co Q q,AtI w a c (nth in0 c.m.code c.pc.toNat) cb co Q q c.pc.toNat:=by
 obtain ⟨vc,vo,vx,vs,l,H⟩:=H
 have hm:=H.ca.me.2.1.bl H.rh.bl
 rcases hm.2 with h0|⟨cb,co,hC,hi⟩
 ·omega
 obtain ⟨k0,k1,k2,k3,k4,-,Q,q,k5,-⟩:=hi c.pc.toNat (by omega)
 exact ⟨cb,co,Q,q,hC,by omega,by omega,hm.1,k0,k1,k2,k3,k4,k5⟩
theorem does_cau (h:Hp) (c:Cal) (i:In):(doesP h c i).c.cau=va0:=by
 unfold doesP
 split
 ·rfl
 split
 ·rfl
 split
 ·rfl
 split
 ·rfl
 split
 ·rfl
 split
 ·unfold resP;dsimp only;split
  ·exact (wr_m ..).2.2.2
  ·rfl
 split
 ·rfl
 split
 ·unfold cauP;dsimp only;split
  ·exact (wr_m ..).2.2.2
  ·rfl
 split
 ·rfl
 ·exact (wr_m ..).2.2.2
theorem does_nx (h:Hp) (c:Cal) (i:In) (h1:i.op≠10) (h2:i.op≠11) (h3:i.op≠12):(doesP h c i).nx=c.pc+1:=by
 unfold doesP
 rw [if_neg h1,if_neg h2,if_neg h3]
 split
 ·rfl
 split
 ·rfl
 split
 ·rfl
 split
 ·rfl
 split
 ·rfl
 split
 ·rfl
 ·rfl
structure DoQ (X:Nat→Prop) (wx w0:World) (g:Mg) (qs:List Qb) (a:Mc) (c:Cal) (d:Did) (e:Ending) (w':World):Prop where
 how:e=DidE d
 stop:d.h.stops=true→RS 0 X wx w0 g w' d.h qs a c
 go:d.h.stops=false→RX 0 X wx w0 g w' d.h qs a { d.c with pc:=d.nx }
abbrev plW (w:World) (q:Nat) (n k1 n1 k2 n2:Int):World:=((((w.setCell ⟨q,11,none⟩ (.int .i64 n)).setCell ⟨q,12,none⟩ (.int .i64 k1)).setCell ⟨q,13,none⟩ (.int .i64 n1)).setCell ⟨q,14,none⟩ (.int .i64 k2)).setCell ⟨q,15,none⟩ (.int .i64 n2)
theorem RX.setP {s:Nat} {X:Nat→Prop} {wx w0 w:World} {g:Mg} {h:Hp} {qs:List Qb} {a:Mc} {c:Cal} (H:RX s X wx w0 g w h qs a c) (n:Int) (u v:Va) (hu:0≤u.kind∧u.kind≤3) (hv:0≤v.kind∧v.kind≤3):RX s X wx w0 g (plW w a.q n u.kind (im u).n v.kind (im v).n) h qs a { c with giv:=u,cau:=v,pc:=n }:=by
 obtain ⟨vc,vo,vx,vs,l,H⟩:=H
 refine ⟨vc,vo,vx,vs,l,H.setQ (grown_trans (grown_trans (grown_trans (grown_trans (grown_set _ _ _) (grown_set _ _ _)) (grown_set _ _ _)) (grown_set _ _ _)) (grown_set _ _ _)) ?_ rfl rfl ⟨hu,hv⟩⟩
 rw [block_set (block_set (block_set (block_set (block_set H.ca.blk _) _) _) _) _]
 rfl
theorem RX.set0 {s:Nat} {X:Nat→Prop} {wx w0 w:World} {g:Mg} {h:Hp} {qs:List Qb} {a:Mc} {c:Cal} (H:RX s X wx w0 g w h qs a c) (n:Int):RX s X wx w0 g (plW w a.q n 0 0 0 0) h qs a { c with giv:=va0,cau:=va0,pc:=n }:=H.setP n va0 va0 (by decide) (by decide)
theorem RX.cp {s:Nat} {X:Nat→Prop} {wx w0 w:World} {g:Mg} {h:Hp} {qs:List Qb} {a:Mc} {c:Cal} (H:RX s X wx w0 g w h qs a c):w.cell? ⟨a.q,11,none⟩=some (.int .i64 c.pc)∧(∀i,w.frozen? ⟨a.q,i,none⟩=false)∧w.cell? ⟨a.q,12,none⟩=some (.int .i64 c.giv.kind)∧w.cell? ⟨a.q,13,none⟩=some (.int .i64 (im c.giv).n)∧w.cell? ⟨a.q,14,none⟩=some (.int .i64 c.cau.kind)∧w.cell? ⟨a.q,15,none⟩=some (.int .i64 (im c.cau).n):=by
 obtain ⟨vc,vo,vx,vs,l,H⟩:=H
 exact ⟨H.ca.cells.c11,H.ca.free,H.ca.cells.c12,H.ca.cells.c13,H.ca.cells.c14,H.ca.cells.c15⟩
theorem RX.c10 {s:Nat} {X:Nat→Prop} {wx w0 w:World} {g:Mg} {h:Hp} {qs:List Qb} {a:Mc} {c:Cal} (H:RX s X wx w0 g w h qs a c):w.cell? ⟨a.q,11,none⟩=some (.int .i64 c.pc)∧(∀i,w.frozen? ⟨a.q,i,none⟩=false)∧w.cell? ⟨a.q,8,none⟩=some (.slice a.C c.m.code.length a.c):=by
 obtain ⟨vc,vo,vx,vs,l,H⟩:=H
 exact ⟨H.ca.cells.c11,H.ca.free,H.ca.cells.c8⟩
theorem do_end (X:Nat→Prop) (wx w0:World) (g:Mg) (h:Hp) (qs:List Qb) (a:Mc) (c:Cal) (w:World) (H:RX 1 X wx w0 g w h qs a c) (hs:h.stops=false) (hp:(c.m.code.length:Int)≤c.pc) (hcm:c.m.code.length≤maxLen) :
  Calls Tryz.prog 67 #[.pointer (some ⟨a.q,0,none⟩)] w fun e w'=>e=stopE 6 0 0∧RX 1 X wx w0 g w' h qs a c:=by
 have HH:=hid H
 obtain ⟨c10,fz,c8⟩:=H.c10
 have hq:=H.qlt
 clear H
 go_enter Tryz.func67,Tryz.ntmps67
 go_wp2
 go_quiet (fail)
 go_wp2_with (go_at_call 134;refine (mstuck_any _).mono ?_;rintro e w1 ⟨rfl,hw⟩;rw [hw];clear hw w1)
 exact ⟨rfl,rfl,HH.out.bl (bl_drewN (Bl.refl w) _)⟩
theorem ins_new (w:World) (b:Nat) (hb:b=w.heap.size) (T:TypeId):(w.alloc (.cells #[.int .i64 0,.int .i64 0,.int .i64 0,.int .i64 0,.int .i64 0,.slice none 0 0] T)).cell? ⟨b,0,none⟩=some (.int .i64 0)∧(w.alloc (.cells #[.int .i64 0,.int .i64 0,.int .i64 0,.int .i64 0,.int .i64 0,.slice none 0 0] T)).cell? ⟨b,1,none⟩=some (.int .i64 0)∧(w.alloc (.cells #[.int .i64 0,.int .i64 0,.int .i64 0,.int .i64 0,.int .i64 0,.slice none 0 0] T)).cell? ⟨b,2,none⟩=some (.int .i64 0)∧(w.alloc (.cells #[.int .i64 0,.int .i64 0,.int .i64 0,.int .i64 0,.int .i64 0,.slice none 0 0] T)).cell? ⟨b,3,none⟩=some (.int .i64 0)∧(w.alloc (.cells #[.int .i64 0,.int .i64 0,.int .i64 0,.int .i64 0,.int .i64 0,.slice none 0 0] T)).cell? ⟨b,4,none⟩=some (.int .i64 0)∧(w.alloc (.cells #[.int .i64 0,.int .i64 0,.int .i64 0,.int .i64 0,.int .i64 0,.slice none 0 0] T)).cell? ⟨b,5,none⟩=some (.slice none 0 0)∧∀i,(w.alloc (.cells #[.int .i64 0,.int .i64 0,.int .i64 0,.int .i64 0,.int .i64 0,.slice none 0 0] T)).frozen? ⟨b,i,none⟩=false:=by
 subst hb
 exact ⟨cell_of_new rfl,cell_of_new rfl,cell_of_new rfl,cell_of_new rfl,cell_of_new rfl,cell_of_new rfl,fun i=>by unfold World.frozen?;rw [blk_new];simp⟩
theorem cs_oth (w:World) (b:Nat) {o o':Nat} (v:Value) (h:o≠o'):(w.setCell ⟨b,o,none⟩ v).cell? ⟨b,o',none⟩=w.cell? ⟨b,o',none⟩:=World.cell?_setCell_other w _ _ _ (by intro e;injection e with _ e _;exact h e)
theorem ins_box {w:World} {b:Nat} {u0 u1 u2 u3 u4 u5:Value} (h0:w.cell? ⟨b,0,none⟩=some u0) (h1:w.cell? ⟨b,1,none⟩=some u1) (h2:w.cell? ⟨b,2,none⟩=some u2) (h3:w.cell? ⟨b,3,none⟩=some u3) (h4:w.cell? ⟨b,4,none⟩=some u4) (h5:w.cell? ⟨b,5,none⟩=some u5) (hf:∀i,w.frozen? ⟨b,i,none⟩=false) (y0 y1 y2 y3 y4 y5:Value):((((((w.setCell ⟨b,0,none⟩ y0).setCell ⟨b,1,none⟩ y1).setCell ⟨b,2,none⟩ y2).setCell ⟨b,3,none⟩ y3).setCell ⟨b,4,none⟩ y4).setCell ⟨b,5,none⟩ y5).cell? ⟨b,0,none⟩=some y0∧((((((w.setCell ⟨b,0,none⟩ y0).setCell ⟨b,1,none⟩ y1).setCell ⟨b,2,none⟩ y2).setCell ⟨b,3,none⟩ y3).setCell ⟨b,4,none⟩ y4).setCell ⟨b,5,none⟩ y5).cell? ⟨b,1,none⟩=some y1∧((((((w.setCell ⟨b,0,none⟩ y0).setCell ⟨b,1,none⟩ y1).setCell ⟨b,2,none⟩ y2).setCell ⟨b,3,none⟩ y3).setCell ⟨b,4,none⟩ y4).setCell ⟨b,5,none⟩ y5).cell? ⟨b,2,none⟩=some y2∧((((((w.setCell ⟨b,0,none⟩ y0).setCell ⟨b,1,none⟩ y1).setCell ⟨b,2,none⟩ y2).setCell ⟨b,3,none⟩ y3).setCell ⟨b,4,none⟩ y4).setCell ⟨b,5,none⟩ y5).cell? ⟨b,3,none⟩=some y3∧((((((w.setCell ⟨b,0,none⟩ y0).setCell ⟨b,1,none⟩ y1).setCell ⟨b,2,none⟩ y2).setCell ⟨b,3,none⟩ y3).setCell ⟨b,4,none⟩ y4).setCell ⟨b,5,none⟩ y5).cell? ⟨b,4,none⟩=some y4∧((((((w.setCell ⟨b,0,none⟩ y0).setCell ⟨b,1,none⟩ y1).setCell ⟨b,2,none⟩ y2).setCell ⟨b,3,none⟩ y3).setCell ⟨b,4,none⟩ y4).setCell ⟨b,5,none⟩ y5).cell? ⟨b,5,none⟩=some y5∧∀i,((((((w.setCell ⟨b,0,none⟩ y0).setCell ⟨b,1,none⟩ y1).setCell ⟨b,2,none⟩ y2).setCell ⟨b,3,none⟩ y3).setCell ⟨b,4,none⟩ y4).setCell ⟨b,5,none⟩ y5).frozen? ⟨b,i,none⟩=false:=by
 refine ⟨?_,?_,?_,?_,?_,?_,fun i=>by simp only [World.frozen?_setCell];exact hf i⟩
 ·rw [cs_oth _ _ _ (by decide)];rw [cs_oth _ _ _ (by decide)];rw [cs_oth _ _ _ (by decide)];rw [cs_oth _ _ _ (by decide)];rw [cs_oth _ _ _ (by decide)];refine World.cell?_setCell_same _ _ _ (u:=u0) ?_;exact h0
 ·rw [cs_oth _ _ _ (by decide)];rw [cs_oth _ _ _ (by decide)];rw [cs_oth _ _ _ (by decide)];rw [cs_oth _ _ _ (by decide)];refine World.cell?_setCell_same _ _ _ (u:=u1) ?_;rw [cs_oth _ _ _ (by decide)];exact h1
 ·rw [cs_oth _ _ _ (by decide)];rw [cs_oth _ _ _ (by decide)];rw [cs_oth _ _ _ (by decide)];refine World.cell?_setCell_same _ _ _ (u:=u2) ?_;rw [cs_oth _ _ _ (by decide)];rw [cs_oth _ _ _ (by decide)];exact h2
 ·rw [cs_oth _ _ _ (by decide)];rw [cs_oth _ _ _ (by decide)];refine World.cell?_setCell_same _ _ _ (u:=u3) ?_;rw [cs_oth _ _ _ (by decide)];rw [cs_oth _ _ _ (by decide)];rw [cs_oth _ _ _ (by decide)];exact h3
 ·rw [cs_oth _ _ _ (by decide)];refine World.cell?_setCell_same _ _ _ (u:=u4) ?_;rw [cs_oth _ _ _ (by decide)];rw [cs_oth _ _ _ (by decide)];rw [cs_oth _ _ _ (by decide)];rw [cs_oth _ _ _ (by decide)];exact h4
 ·refine World.cell?_setCell_same _ _ _ (u:=u5) ?_;rw [cs_oth _ _ _ (by decide)];rw [cs_oth _ _ _ (by decide)];rw [cs_oth _ _ _ (by decide)];rw [cs_oth _ _ _ (by decide)];rw [cs_oth _ _ _ (by decide)];exact h5
theorem bl_six {w v:World} (h:Bl w v) {b:Nat} (hb:w.heap.size≤b) (y0 y1 y2 y3 y4 y5:Value):Bl w ((((((v.setCell ⟨b,0,none⟩ y0).setCell ⟨b,1,none⟩ y1).setCell ⟨b,2,none⟩ y2).setCell ⟨b,3,none⟩ y3).setCell ⟨b,4,none⟩ y4).setCell ⟨b,5,none⟩ y5):=((((((h.setCell (p:=⟨b,0,none⟩) hb y0).setCell (p:=⟨b,1,none⟩) hb y1).setCell (p:=⟨b,2,none⟩) hb y2).setCell (p:=⟨b,3,none⟩) hb y3).setCell (p:=⟨b,4,none⟩) hb y4).setCell (p:=⟨b,5,none⟩) hb y5)
theorem dpm {s:Nat} {X:Nat→Prop} {wx w0 w:World} {g:Mg} {h:Hp} {qs:List Qb} {a:Mc} {c:Cal} {op ia ib ic ii:Int} {args:List Int} {cb co:Nat} {Q:Option Addr} {q n:Nat} (H:RX s X wx w0 g w h qs a c) (A:AtI w a c ⟨op,ia,ib,ic,ii,args⟩ cb co Q q n) :
  w.cell? ⟨a.q,11,none⟩=some (.int .i64 (n:Int))∧(∀i,w.frozen? ⟨a.q,i,none⟩=false)∧w.cell? ⟨a.q,8,none⟩=some (.slice (some ⟨cb,co,none⟩) c.m.code.length a.c)∧a.q<w.heap.size∧c.m.code.length≤2 ^ 63-1∧n<c.m.code.length∧Hid (c.pc=n)∧(0:Int)≤(n:Int)∧(n:Int)<(c.m.code.length:Int)∧decide ((c.m.code.length:Int)≤(n:Int))=false
   ∧ Hid (∀w',Bl w w'→w'.cell? ⟨a.q,8,none⟩=some (.slice (some ⟨cb,co,none⟩) c.m.code.length a.c)∧w'.cell? ⟨a.q,11,none⟩=some (.int .i64 (n:Int))∧w'.cell? ⟨cb,co+n*6,none⟩=some (.int .i64 op)∧w'.cell? ⟨cb,co+n*6+1,none⟩=some (.int .i64 ia)∧w'.cell? ⟨cb,co+n*6+2,none⟩=some (.int .i64 ib)∧w'.cell? ⟨cb,co+n*6+3,none⟩=some (.int .i64 ic)∧w'.cell? ⟨cb,co+n*6+4,none⟩=some (.int .i64 ii)∧w'.cell? ⟨cb,co+n*6+5,none⟩=some (.slice Q args.length q))∧(∀i,w.frozen? ⟨w.heap.size,i,none⟩=false)∧∀i n,(w.drewN n).frozen? ⟨w.heap.size,i,none⟩=false:=by
 obtain ⟨c10,fz,c8⟩:=H.c10
 have hcl:=A.len
 have hlt:=A.lt
 rw [A.pc] at c10
 rw [A.C] at c8
 unfold maxLen at hcl
 have fzn:∀i,w.frozen? ⟨w.heap.size,i,none⟩=false:=fun i=>by simp [World.frozen?]
 exact ⟨c10,fz,c8,H.qlt,hcl,hlt,A.pc,by omega,by omega,by simpa using hlt,fun w' hb=>⟨hb.cell c8,hb.cell c10,hb.cell A.c0,hb.cell A.c1,hb.cell A.c2,hb.cell A.c3,hb.cell A.c4,hb.cell A.c5⟩,fzn,fun i n=>by rw [World.frozen?_drewN];exact fzn i⟩
theorem insN (w:World) (m B:Nat) (hB:B=w.heap.size):Hid (Bl w ((w.drewN m).alloc (.cells #[.int .i64 0,.int .i64 0,.int .i64 0,.int .i64 0,.int .i64 0,.slice none 0 0] 58)))∧((w.drewN m).alloc (.cells #[.int .i64 0,.int .i64 0,.int .i64 0,.int .i64 0,.int .i64 0,.slice none 0 0] 58)).cell? ⟨B,0,none⟩=some (.int .i64 0)∧((w.drewN m).alloc (.cells #[.int .i64 0,.int .i64 0,.int .i64 0,.int .i64 0,.int .i64 0,.slice none 0 0] 58)).cell? ⟨B,1,none⟩=some (.int .i64 0)∧((w.drewN m).alloc (.cells #[.int .i64 0,.int .i64 0,.int .i64 0,.int .i64 0,.int .i64 0,.slice none 0 0] 58)).cell? ⟨B,2,none⟩=some (.int .i64 0)∧((w.drewN m).alloc (.cells #[.int .i64 0,.int .i64 0,.int .i64 0,.int .i64 0,.int .i64 0,.slice none 0 0] 58)).cell? ⟨B,3,none⟩=some (.int .i64 0)∧((w.drewN m).alloc (.cells #[.int .i64 0,.int .i64 0,.int .i64 0,.int .i64 0,.int .i64 0,.slice none 0 0] 58)).cell? ⟨B,4,none⟩=some (.int .i64 0)∧((w.drewN m).alloc (.cells #[.int .i64 0,.int .i64 0,.int .i64 0,.int .i64 0,.int .i64 0,.slice none 0 0] 58)).cell? ⟨B,5,none⟩=some (.slice none 0 0)
  ∧ (∀i,((w.drewN m).alloc (.cells #[.int .i64 0,.int .i64 0,.int .i64 0,.int .i64 0,.int .i64 0,.slice none 0 0] 58)).frozen? ⟨B,i,none⟩=false)∧Hid (((w.drewN m).alloc (.cells #[.int .i64 0,.int .i64 0,.int .i64 0,.int .i64 0,.int .i64 0,.slice none 0 0] 58)).heap[B]?=some (.cells #[.int .i64 0,.int .i64 0,.int .i64 0,.int .i64 0,.int .i64 0,.slice none 0 0] 58 (0,0)))∧Hid (w.heap.size≤B):=by
 subst hB
 obtain ⟨v0,v1,v2,v3,v4,v5,fzV⟩:=ins_new (w.drewN m) w.heap.size rfl 58
 exact ⟨(bl_drewN (Bl.refl w) _).alloc _,v0,v1,v2,v3,v4,v5,fzV,blk_new _ _ _,Nat.le_refl _⟩
theorem set_six {w:World} {b:Nat} {t:TypeId} (q:w.heap[b]?=some (.cells #[.int .i64 0,.int .i64 0,.int .i64 0,.int .i64 0,.int .i64 0,.slice none 0 0] t (0,0))) (y0 y1 y2 y3 y4 y5:Value):((((((w.setCell ⟨b,0,none⟩ y0).setCell ⟨b,1,none⟩ y1).setCell ⟨b,2,none⟩ y2).setCell ⟨b,3,none⟩ y3).setCell ⟨b,4,none⟩ y4).setCell ⟨b,5,none⟩ y5).heap[b]?=some (.cells #[y0,y1,y2,y3,y4,y5] t (0,0)):=by
 rw [block_set (block_set (block_set (block_set (block_set (block_set q _) _) _) _) _) _];rfl
theorem insS {w v:World} {b:Nat} {u0 u1 u2 u3 u4 u5:Value} (h:Hid (Bl w v)) (hb:Hid (w.heap.size≤b)) (h0:v.cell? ⟨b,0,none⟩=some u0) (h1:v.cell? ⟨b,1,none⟩=some u1) (h2:v.cell? ⟨b,2,none⟩=some u2) (h3:v.cell? ⟨b,3,none⟩=some u3) (h4:v.cell? ⟨b,4,none⟩=some u4) (h5:v.cell? ⟨b,5,none⟩=some u5) (hf:∀i,v.frozen? ⟨b,i,none⟩=false) (qB:Hid (v.heap[b]?=some (.cells #[.int .i64 0,.int .i64 0,.int .i64 0,.int .i64 0,.int .i64 0,.slice none 0 0] 58 (0,0)))) (y0 y1 y2 y3 y4 y5:Value) :
  Hid (Bl w ((((((v.setCell ⟨b,0,none⟩ y0).setCell ⟨b,1,none⟩ y1).setCell ⟨b,2,none⟩ y2).setCell ⟨b,3,none⟩ y3).setCell ⟨b,4,none⟩ y4).setCell ⟨b,5,none⟩ y5))∧Hid (((((((v.setCell ⟨b,0,none⟩ y0).setCell ⟨b,1,none⟩ y1).setCell ⟨b,2,none⟩ y2).setCell ⟨b,3,none⟩ y3).setCell ⟨b,4,none⟩ y4).setCell ⟨b,5,none⟩ y5).cell? ⟨b,0,none⟩=some y0∧((((((v.setCell ⟨b,0,none⟩ y0).setCell ⟨b,1,none⟩ y1).setCell ⟨b,2,none⟩ y2).setCell ⟨b,3,none⟩ y3).setCell ⟨b,4,none⟩ y4).setCell ⟨b,5,none⟩ y5).cell? ⟨b,1,none⟩=some y1∧((((((v.setCell ⟨b,0,none⟩ y0).setCell ⟨b,1,none⟩ y1).setCell ⟨b,2,none⟩ y2).setCell ⟨b,3,none⟩ y3).setCell ⟨b,4,none⟩ y4).setCell ⟨b,5,none⟩ y5).cell? ⟨b,2,none⟩=some y2∧((((((v.setCell ⟨b,0,none⟩ y0).setCell ⟨b,1,none⟩ y1).setCell ⟨b,2,none⟩ y2).setCell ⟨b,3,none⟩ y3).setCell ⟨b,4,none⟩ y4).setCell ⟨b,5,none⟩ y5).cell? ⟨b,3,none⟩=some y3∧((((((v.setCell ⟨b,0,none⟩ y0).setCell ⟨b,1,none⟩ y1).setCell ⟨b,2,none⟩ y2).setCell ⟨b,3,none⟩ y3).setCell ⟨b,4,none⟩ y4).setCell ⟨b,5,none⟩ y5).cell? ⟨b,4,none⟩=some y4∧((((((v.setCell ⟨b,0,none⟩ y0).setCell ⟨b,1,none⟩ y1).setCell ⟨b,2,none⟩ y2).setCell ⟨b,3,none⟩ y3).setCell ⟨b,4,none⟩ y4).setCell ⟨b,5,none⟩ y5).cell? ⟨b,5,none⟩=some y5∧∀i,((((((v.setCell ⟨b,0,none⟩ y0).setCell ⟨b,1,none⟩ y1).setCell ⟨b,2,none⟩ y2).setCell ⟨b,3,none⟩ y3).setCell ⟨b,4,none⟩ y4).setCell ⟨b,5,none⟩ y5).frozen? ⟨b,i,none⟩=false)∧Hid (((((((v.setCell ⟨b,0,none⟩ y0).setCell ⟨b,1,none⟩ y1).setCell ⟨b,2,none⟩ y2).setCell ⟨b,3,none⟩ y3).setCell ⟨b,4,none⟩ y4).setCell ⟨b,5,none⟩ y5).heap[b]?=some (.cells #[y0,y1,y2,y3,y4,y5] 58 (0,0))) :=
 ⟨bl_six h.out hb.out _ _ _ _ _ _,ins_box h0 h1 h2 h3 h4 h5 hf _ _ _ _ _ _,set_six qB.out _ _ _ _ _ _⟩
end
end Go.Proofs.YtgiiapenmjollabGreat
