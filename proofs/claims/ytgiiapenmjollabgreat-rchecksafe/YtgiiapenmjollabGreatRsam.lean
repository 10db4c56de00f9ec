import Derived.Test.YtgiiapenmjollabGreatRsah
import Derived.Test.YtgiiapenmjollabGreatRsal
import Derived.Defers
import Derived.Recover
namespace Go.Proofs.YtgiiapenmjollabGreat
set_option linter.all false
set_option maxHeartbeats 40000000
set_option maxRecDepth 100000
open Go.RowKit
def nrT (t:Ty):Prop:=t.kind≠3→t.cls=0
structure Nr (s:As):Prop where
 sl:∀t∈s.slots,nrT t
 st:∀t∈s.stk,nrT t
theorem tyB_nr {n:Nat} {t:Ty} (h:tyB n t=true):nrT t:=by
 have:=of_decide_eq_true h
 exact fun e=>by omega
theorem Nr.write {s:As} {a:Nat} {v:Ty} (w:Nr s) (hv:nrT v):Nr { s with slots:=wrT s.slots a v }:=by
 refine ⟨fun t ht=>?_,w.st⟩
 have h0:nrT ty0:=fun _=>rfl
 have h4:nrT ⟨4,0⟩:=fun _=>rfl
 have ht:t∈wrT s.slots a v:=ht
 unfold wrT at ht
 split at ht
 ·rcases mem_set' ht with rfl|ht
  ·exact hv
  rcases mem_set' ht with rfl|ht
  ·exact h4
  rcases mem_losT ht with rfl|ht
  ·exact h0
  rcases mem_losT ht with rfl|ht
  ·exact h0
  exact w.sl t ht
 ·rcases mem_set' ht with rfl|ht
  ·exact hv
  rcases mem_losT ht with rfl|ht
  ·exact h0
  exact w.sl t ht
theorem Nr.clr {s:As} (w:Nr s):Nr ⟨s.slots,[]⟩:=⟨w.sl,fun t ht=>by cases ht⟩
theorem Nr.one {s:As} (w:Nr s) {v:Ty} (hv:nrT v):Nr ⟨s.slots,[v]⟩:=⟨w.sl,fun t ht=>by rw [List.mem_singleton.1 ht];exact hv⟩
theorem valT_nr {f:Fi} {m:Me} {i:In} {s:As} {v:Ty} {rt:Int} (w:Nr s) (hlen:(s.slots.length:Int)=m.regs) (hmay:mayB f.classes=true) (ok:InOk f.classes f.methods m.code.length m.regs rt i) (h:valT f.classes i s=some v):nrT v:=by
 have n1:nrT ⟨1,0⟩:=fun _=>rfl
 have n2:nrT ⟨2,0⟩:=fun _=>rfl
 have r3:∀c:Int,nrT ⟨3,c⟩:=fun c e=>absurd rfl e
 have okop:=ok.op
 unfold valT at h
 by_cases e3:i.op=3
 ·rw [if_pos e3] at h;rw [←Option.some.inj h];exact r3 _
 rw [if_neg e3] at h
 by_cases e4:i.op=4
 ·rw [if_pos e4] at h
  rw [(rdT_eq h).1]
  have ob:=ok.b (by omega)
  exact w.sl _ (nth_mem (by omega))
 rw [if_neg e4] at h
 by_cases e13:i.op=13
 ·rw [if_pos e13] at h;rw [←Option.some.inj h];exact r3 _
 rw [if_neg e13] at h
 by_cases e14:i.op=14
 ·rw [if_pos e14,Option.bind_eq_some_iff] at h
  obtain ⟨x,-,h⟩:=h
  have o:=ok.fld (Or.inl e14)
  rw [←Option.some.inj h]
  exact tyB_nr (may_fldT hmay (by omega) (by omega))
 rw [if_neg e14] at h
 by_cases e16:i.op=16
 ·rw [if_pos e16,Option.bind_eq_some_iff] at h;obtain ⟨x,-,h⟩:=h;rw [←Option.some.inj h];exact r3 _
 rw [if_neg e16] at h
 have fe:∀{k:Int},fetchT k s=some v→nrT v:=fun {k} h=>by
  unfold fetchT at h
  split at h
  ·cases h
  ·rename_i hl
   split at h
   ·rw [←Option.some.inj h];exact w.st _ (nth_mem (by omega))
   ·cases h
 by_cases e19:i.op=19
 ·rw [if_pos e19] at h;exact fe h
 rw [if_neg e19] at h
 by_cases e22:i.op=22
 ·rw [if_pos e22] at h;exact fe h
 rw [if_neg e22] at h
 unfold numT at h
 split at h
 ·rw [(two_eq h).2.2];exact n1
 split at h
 ·rw [Option.bind_eq_some_iff] at h;obtain ⟨x,-,h⟩:=h;rw [←Option.some.inj h];exact n1
 split at h
 ·rw [(two_eq h).2.2];exact n1
 split at h
 ·rw [Option.bind_eq_some_iff] at h;obtain ⟨x,-,h⟩:=h;rw [←Option.some.inj h];exact n1
 split at h
 ·rw [(two_eq h).2.2];exact n2
 split at h
 ·rw [Option.bind_eq_some_iff] at h;obtain ⟨x,-,h⟩:=h;rw [←Option.some.inj h];exact n2
 split at h
 ·rw [←Option.some.inj h];exact n2
 ·rw [←Option.some.inj h];exact n1
theorem Nr.work {f:Fi} {m:Me} {i:In} {s s1:As} {rt:Int} (w:Nr s) (hlen:(s.slots.length:Int)=m.regs) (hmay:mayB f.classes=true) (ok:InOk f.classes f.methods m.code.length m.regs rt i) (h:workT f.classes i s=some s1):Nr s1:=by
 unfold workT at h
 split at h
 ·rw [Option.bind_eq_some_iff] at h
  obtain ⟨x,-,h⟩:=h
  rw [Option.bind_eq_some_iff] at h
  obtain ⟨y,-,h⟩:=h
  rw [←Option.some.inj h]
  exact w.clr
 ·split at h
  ·rw [Option.bind_eq_some_iff] at h
   obtain ⟨x,-,h⟩:=h
   rw [←Option.some.inj h]
   exact w.clr
  ·rw [Option.bind_eq_some_iff] at h
   obtain ⟨x,hv,h⟩:=h
   rw [←Option.some.inj h]
   exact w.clr.write (valT_nr w hlen hmay ok hv)
theorem assert_up (x:Value) (w:World):(Instr.typeAssert (.iface 309 x) 20 309 true).run Tryz.prog w=.ok (.tuple #[x,.bool true]) w:=by
 simp [Instr.typeAssert,run_underlying Tryz.underlying309]
theorem assert_nil (w:World):(Instr.typeAssert .nilIface 20 309 true).run Tryz.prog w=.ok (.tuple #[.agg #[],.bool false]) w:=by
 simp [Instr.typeAssert,run_underlying Tryz.underlying309]
theorem hcatch_idle (w:World) :
  CallsD Tryz.prog 273 #[] .returning w fun e u' w'=>e=.returned (.tuple #[])∧u'=.returning∧w'=w:=by
 refine callsD_of_wpS Tryz.func273 rfl fun c₀ cs hu=>?_
 apply wpS_seq
 apply wpS_region
 simp [wpOpsS,go_sem,recoverD,hu,Tryz.ntmps273,Exit.thenS]
 refine wpS_of_wp ?_
 have hts:=assert_nil
 have he:((Array.replicate 9 undef).setIfInBounds 2 Value.nilIface)=#[undef,undef,.nilIface,undef,undef,undef,undef,undef,undef]:=rfl
 rw [he]
 clear he
 go_wp2
 cases c₀
 simp_all [bodyPostS,results,Tryz.results273]
theorem hcatch_up (older:List PanicEntry) (w:World) :
  CallsD Tryz.prog 273 #[] (.panicking ({ v:=.iface 309 (.agg #[]),recovered:=false }::older)) w fun e u' w' =>
   e=.returned (.tuple #[])∧u'=.panicking ({ v:=.iface 309 (.agg #[]),recovered:=true }::older)∧w'=w:=by
 refine callsD_of_wpS Tryz.func273 rfl fun c₀ cs hu=>?_
 apply wpS_seq
 apply wpS_region
 simp [wpOpsS,go_sem,recoverD,hu,Tryz.ntmps273,Exit.thenS]
 refine wpS_of_wp ?_
 have hts:=assert_up (.agg #[])
 have he:((Array.replicate 9 undef).setIfInBounds 2 (Value.iface 309 (.agg #[])))=#[undef,undef,.iface 309 (.agg #[]),undef,undef,undef,undef,undef,undef]:=rfl
 rw [he]
 clear he
 go_wp2
 simp [bodyPostS,results,Tryz.results273]
theorem holds_any (x y:Value) (S T:World→Prop) (w:World)
  (hc:Calls Tryz.prog 215 #[x,y] w fun e w'=>(e=upE∧S w')∨(e=.returned (.tuple #[])∧T w')) :
  Calls Tryz.prog 214 #[.func (.func 215) #[] #[x,y]] w fun e w'=>(e=.returned (.bool false)∧S w')∨(e=.returned (.bool true)∧T w'):=by
 have hmf:∀(fn:Fn) (first cap:Array Value) (w:World),(Instr.makeFunc fn first cap).run Tryz.prog w=.ok (.func fn first cap) w:=fun _ _ _ _=>rfl
 have HC:Hid (_):=hc
 clear hc
 go_enter_defers Tryz.func214,Tryz.ntmps214
 go_wp2_with (go_at_call 215;refine Calls.mono HC.out ?_;rintro e w1 (⟨rfl,s1⟩|⟨rfl,s1⟩);(refine leaves_cons (f:=273) (args:=#[]) (by simp) (by simp [go_sem]) ?_;refine (hcatch_up [] w1).mono ?_;rintro e u' w2 ⟨rfl,rfl,rfl⟩;simp [Leaves,settle,results,Tryz.results214,go_sem];exact s1))
 refine leaves_cons (f:=273) (args:=#[]) (by simp) (by simp [go_sem]) ?_
 refine (hcatch_idle _).mono ?_
 rintro e u' w2 ⟨rfl,rfl,rfl⟩
 simp [Leaves,settle,results,Tryz.results214,go_sem]
 exact s1
structure Ca where
 q:Nat
 lb:Nat
 lc:Nat
 P:Option Addr
 C:Option Addr
 K:Option Addr
 p:Nat
 c:Nat
 k:Nat
def calRow (a:Ca) (c:Cal):Array Value :=
 #[.slice a.P c.m.params.length a.p,.int .i64 c.m.ret.kind,.int .i64 c.m.ret.cls,.int .i64 c.m.stack,.int .i64 c.m.locs,.int .i64 c.m.regs,.slice a.C c.m.code.length a.c,.slice a.K c.m.hands.length a.k,
  .slice (some ⟨a.lb,0,none⟩) c.locs.length a.lc,.int .i64 c.giv.kind,.int .i64 c.giv.n,.int .i64 c.cau.kind,.int .i64 c.cau.n,.int .i64 c.pc]
structure CalAt (w0 w:World) (a:Ca) (c:Cal):Prop where
 own:w0.heap.size≤a.q
 ownl:w0.heap.size≤a.lb
 blk:w.heap[a.q]?=some (.cells (calRow a c) 140 (0,0))
 loc:LocBox w a.lb c.locs
 me:MeAt w0 c.m a.P a.C a.K
structure Cq (w0:World) (g:Ad) (h:Hp):Prop where
 cw:Cw w0 g h
 t:g.T=80
theorem Cq.k {w0:World} {g:Ad} {h:Hp} (C:Cq w0 g h):Tk g.T:=C.cw.k
theorem Cq.n7 {w0:World} {g:Ad} {h:Hp} (C:Cq w0 g h):¬heapT g.T 140:=by
 rw [C.t];rintro (h|h|h|h)<;>exact absurd h (by decide)
structure Fq (B:Nat) (T:TypeId) (a:Ca) (w w':World):Prop where
 bl:Below B w w'
 keep:∀(b:Nat) (cs:Array Value) (t:TypeId) (f:Nat×Nat),w.heap[b]?=some (.cells cs t f)→¬heapT T t→b≠a.q→b≠a.lb→w'.heap[b]?=some (.cells cs t f)
theorem Fr.fq {B:Nat} {T:TypeId} {a:Ca} {w w':World} (h:Fr B T w w'):Fq B T a w w':=⟨h.bl,fun b cs t f e n _ _=>h.keep b cs t f e n⟩
theorem Fq.refl (B:Nat) (T:TypeId) (a:Ca) (w:World):Fq B T a w w:=(Fr.refl B T w).fq
theorem Fq.trans {B:Nat} {T:TypeId} {a:Ca} {x y z:World} (h:Fq B T a x y) (k:Fq B T a y z):Fq B T a x z :=
 ⟨h.bl.trans k.bl,fun b cs t f e n n1 n2=>k.keep b cs t f (h.keep b cs t f e n n1 n2) n n1 n2⟩
theorem Fq.fr {B:Nat} {T:TypeId} {a:Ca} {x y z:World} (h:Fr B T x y) (k:Fq B T a y z) (hq:x.heap.size≤a.q) (hl:x.heap.size≤a.lb):Fr B T x z :=
 ⟨h.bl.trans k.bl,fun b cs t f e n=>k.keep b cs t f (h.keep b cs t f e n) n (by have:=lt_some e;omega) (by have:=lt_some e;omega)⟩
theorem LocBox.frr {B:Nat} {T:TypeId} {w w':World} {b:Nat} {l:List Va} (h:LocBox w b l) (k:Tk T) (f:Fr B T w w'):LocBox w' b l:=⟨f.keep _ _ _ _ h.blk k.nv,h.len⟩
theorem CalAt.fr {B:Nat} {T:TypeId} {w0 w w':World} {a:Ca} {c:Cal} (h:CalAt w0 w a c) (k:Tk T) (n7:¬heapT T 140) (f:Fr B T w w'):CalAt w0 w' a c :=
 ⟨h.own,h.ownl,f.keep _ _ _ _ h.blk n7,h.loc.frr k f,h.me⟩
structure CalCells (w:World) (a:Ca) (c:Cal):Prop where
 c0:w.cell? ⟨a.q,0,none⟩=some (.slice a.P c.m.params.length a.p)
 c1:w.cell? ⟨a.q,1,none⟩=some (.int .i64 c.m.ret.kind)
 c2:w.cell? ⟨a.q,2,none⟩=some (.int .i64 c.m.ret.cls)
 c6:w.cell? ⟨a.q,6,none⟩=some (.slice a.C c.m.code.length a.c)
 c7:w.cell? ⟨a.q,7,none⟩=some (.slice a.K c.m.hands.length a.k)
 c8:w.cell? ⟨a.q,8,none⟩=some (.slice (some ⟨a.lb,0,none⟩) c.locs.length a.lc)
 c9:w.cell? ⟨a.q,9,none⟩=some (.int .i64 c.giv.kind)
 c10:w.cell? ⟨a.q,10,none⟩=some (.int .i64 c.giv.n)
 c11:w.cell? ⟨a.q,11,none⟩=some (.int .i64 c.cau.kind)
 c12:w.cell? ⟨a.q,12,none⟩=some (.int .i64 c.cau.n)
 c13:w.cell? ⟨a.q,13,none⟩=some (.int .i64 c.pc)
theorem CalAt.cells {w0 w:World} {a:Ca} {c:Cal} (H:CalAt w0 w a c):CalCells w a c:=by
 constructor<;>(rw [cell_blk H.blk];rfl)
theorem CalAt.free {w0 w:World} {a:Ca} {c:Cal} (H:CalAt w0 w a c) (i:Nat):w.frozen? ⟨a.q,i,none⟩=false:=free_blk H.blk i
theorem CalAt.apart {w0 w:World} {a:Ca} {c:Cal} (H:CalAt w0 w a c):a.lb≠a.q:=by
 intro h
 have h1:=H.loc.blk
 rw [h,H.blk] at h1
 simp at h1
theorem CalAt.setC {w0 w:World} {a:Ca} {c c':Cal} (H:CalAt w0 w a c) {i:Nat} {v:Value} (hr:(calRow a c).setIfInBounds i v=calRow a c') (hl:c'.locs=c.locs) (hm:c'.m=c.m):CalAt w0 (w.setCell ⟨a.q,i,none⟩ v) a c':=by
 refine ⟨H.own,H.ownl,by rw [block_set H.blk,hr],⟨?_,by rw [hl];exact H.loc.len⟩,by rw [hm];exact H.me⟩
 rw [block_far H.apart,hl];exact H.loc.blk
theorem CalAt.fq {w0 w:World} {a:Ca} {c:Cal} (H:CalAt w0 w a c) (T:TypeId) (i:Nat) (v:Value):Fq w0.heap.size T a w (w.setCell ⟨a.q,i,none⟩ v) :=
 ⟨(Below.refl _ w).setCell H.own v,fun b cs t f e n n1 n2=>by rw [block_far n1];exact e⟩
theorem CalAt.cf {T:TypeId} {w0 w:World} {a:Ca} {c:Cal} (H:CalAt w0 w a c) (n7:¬heapT T 140) (i:Nat) (v:Value):Cf w0.heap.size T w (w.setCell ⟨a.q,i,none⟩ v) :=
 (Cf.refl _ _ w).set H.blk n7 H.own v
theorem Only.cf {w0 w w':World} {T:TypeId} {b:Nat} {l:List Va} (h:Only b w w') (k:Tk T) (hL:LocBox w b l) (hb:w0.heap.size≤b) (hs:w0.heap.size≤w.heap.size):Cf w0.heap.size T w w' :=
 ⟨⟨h.os,h.tape,h.output,h.size,fun i hi=>h.block i (by omega) (by omega)⟩,fun i cs t f e n=>by
  have hi:=lt_some e
  rw [h.block i hi]
  ·exact e
  ·rintro rfl;rw [hL.blk] at e;simp at e;exact k.nv (e.2.1▸n)⟩
theorem Only.fq {w0 w w':World} {a:Ca} {T:TypeId} (h:Only a.lb w w') (hb:w0.heap.size≤a.lb) (hs:w0.heap.size≤w.heap.size):Fq w0.heap.size T a w w' :=
 ⟨⟨h.os,h.tape,h.output,h.size,fun i hi=>h.block i (by omega) (by omega)⟩,fun i cs t f e n n1 n2=>by rw [h.block i (lt_some e) n2];exact e⟩
theorem CalAt.setLoc {w0 w w':World} {a:Ca} {c:Cal} (H:CalAt w0 w a c) (h:Only a.lb w w') {l:List Va} (hl:LocBox w' a.lb l) (hn:l.length=c.locs.length):CalAt w0 w' a { c with locs:=l }:=by
 refine ⟨H.own,H.ownl,?_,hl,H.me⟩
 rw [h.block _ (lt_some H.blk) (Ne.symm H.apart),H.blk]
 simp only [calRow,hn]
theorem yread_any (w0:World) (g:Ad) (p:Nat) (h:Hp) (a:Ca) (c:Cal) (n k:Int) (w:World) (hH:Hs w0 g w p h) (hC:CalAt w0 w a c) (C:Cq w0 g h) (hn:0≤n∧n<c.locs.length) :
  Calls Tryz.prog 86 #[.pointer (some ⟨p,0,none⟩),.pointer (some ⟨a.q,0,none⟩),.int .i64 n,.int .i64 k] w fun e w'=>e=.returned (vaV (c.rd n))∧Hs w0 g w' p (h.rdH c n k)∧Fr w0.heap.size g.T w w':=by
 obtain ⟨m,rfl⟩:∃m:Nat,n=m:=⟨n.toNat,by omega⟩
 have er:c.rd (m:Int)=nth va0 c.locs m:=by unfold Cal.rd;rw [Int.toNat_natCast]
 unfold Hp.rdH
 rw [er]
 have hm:m<c.locs.length:=by omega
 have z8:=hC.cells.c8
 have l0:=hC.loc.c0 hm
 have l1:=hC.loc.c1 hm
 have hlen:=hC.loc.len
 generalize nth va0 c.locs m=v at *
 have hb:=hH.base
 have hq:a.q<w.heap.size:=lt_some hC.blk
 have hl:a.lb<w.heap.size:=lt_some hC.loc.blk
 have HF:Hid (Fr w0.heap.size g.T w ((w.alloc vzO).alloc (vaO v))):=((Fr.refl _ _ w).alloc hb _).alloc (by simp;omega) _
 have HH:Hid (Hs w0 g ((w.alloc vzO).alloc (vaO v)) p h):=hH.cf (((Cf.refl _ _ w).alloc hb _).alloc (by simp;omega) _)
 have HC:=hid C
 have HR0:Hid (VaBox ((w.alloc vzO).alloc (vaO v)) w.heap.size va0):=⟨(Below.heap_alloc _ _ _ (by simp)).trans (VaBox.new w va0).blk⟩
 have HV0:Hid (VaBox ((w.alloc vzO).alloc (vaO v)) (w.heap.size+1) v):=by have:=VaBox.new (w.alloc vzO) v;rwa [World.size_alloc] at this
 have z0:=hid HV0.out.c0
 clear hH hC C er
 go_enter Tryz.func86,Tryz.ntmps86
 go_wp2
 refine wp_region_held_drew (S:=fun w'=>w'.cell? ⟨w.heap.size+1,0,none⟩=some (.int .i64 v.kind)) (by kernel_rfl) ?_ (fun hHeld0=>?_)
 ·exact z0.out
 iterate 7 (refine tn rfl (by kernel_rfl) (fun _ _ _ h=>h) (by intro _ h;go_split_ands;go_simp<;>with_reducible rfl) hHeld0 ?_;try simp only [aS,aN,aT,a0,a1])
 refine rd1 (i:=7) (by kernel_rfl) rfl fun K hK=>?_
 go_simp
 go_at_call 85
 refine (must_any w0 g HC.out.k p h _ _ (HH.out.drewN 1)).mono ?_
 rintro e w1 ⟨rfl,H1,F1⟩
 have R1:=hid ((HR0.out.drewN 1).keep HC.out.k F1)
 have V1:=hid ((HV0.out.drewN 1).keep HC.out.k F1)
 have d0:=hid V1.out.c0
 have H1:=hid H1
 have F1:=hid F1
 go_wp2_with fail
 refine hK.out _ _ (d0.out) (fun hHeld1=>?_)
 try simp only [aS,aN,aT,a0,a1]
 refine wpAnyH_done (by kernel_rfl) ?_ _
 have e0:=V1.out.c0
 have e1:=V1.out.c1
 have r0:=R1.out.c0
 have r1:=R1.out.c1
 have fz:=R1.out.fr
 go_wp2
 refine bodyPost_ret (results_cell_row rfl _ _ w.heap.size _ _ _ _ rfl (R1.out.set v).blk Tryz.underlying82 rfl info_va) rfl ?_
 exact ⟨rfl,H1.out.cf (R1.out.cf HC.out.k hb _ _),((HF.out.drewN 1).trans F1.out).new (Nat.le_refl _) hb _ |>.new (Nat.le_refl _) hb _⟩
theorem qwrite_any (w0:World) (g:Ad) (p:Nat) (h:Hp) (a:Ca) (c:Cal) (n:Int) (v:Va) (w:World) (hH:Hs w0 g w p h) (hC:CalAt w0 w a c) (C:Cq w0 g h) (hn:0≤n∧n<c.locs.length) (hw:h.stops=false→LocOk c.locs∧(v.kind=2→n+1<c.locs.length)) :
  Calls Tryz.prog 88 #[.pointer (some ⟨p,0,none⟩),.pointer (some ⟨a.q,0,none⟩),.int .i64 n,vaV v] w fun e w'=>e=.returned (.tuple #[])∧Hs w0 g w' p h∧CalAt w0 w' a (wrP h c n v)∧Fq w0.heap.size g.T a w w':=by
 obtain ⟨m,rfl⟩:∃m:Nat,n=m:=⟨n.toNat,by omega⟩
 have hm:m<c.locs.length:=by omega
 have hb:=hH.base
 have hq:a.q<w.heap.size:=lt_some hC.blk
 have hl:a.lb<w.heap.size:=lt_some hC.loc.blk
 have F0:Fr w0.heap.size g.T w (w.alloc (vaO v)):=(Fr.refl _ _ w).alloc hb _
 have HF:=hid F0
 have HH:Hid (Hs w0 g (w.alloc (vaO v)) p h):=hH.cf ((Cf.refl _ _ w).alloc hb _)
 have HA:Hid (CalAt w0 (w.alloc (vaO v)) a c):=hC.fr C.k C.n7 F0
 have HC:=hid C
 have HV0:Hid (VaBox (w.alloc (vaO v)) w.heap.size v):=VaBox.new w v
 have z0:=hid (And.intro HA.out.cells.c8 (And.intro HV0.out.c0 HV0.out.c1))
 have hbs:w0.heap.size≤(w.alloc (vaO v)).heap.size:=by simp;omega
 have HBS:=hid hbs
 cases hs:h.stops with
 | true =>
  have ew:wrP h c (m:Int) v=c:=by unfold wrP;rw [if_pos hs]
  rw [ew]
  have HS:=hid hs
  clear hH hC C hs hw F0 ew hbs
  go_enter Tryz.func88,Tryz.ntmps88
  go_wp2_with (go_at_call 161;refine (stops_any w0 g p h _ HH.out).mono ?_;rintro e w1 ⟨he,hw1⟩;rw [HS.out] at he;subst he;rw [hw1];clear hw1 w1)
  go_end0
  exact ⟨rfl,HH.out,HA.out,HF.out.fq⟩
 | false =>
  obtain ⟨hok,h2⟩:=hw hs
  have ew:wrP h c (m:Int) v={ c with locs:=stoP c.locs m v }:=by unfold wrP;rw [if_neg (by rw [hs];decide),Int.toNat_natCast]
  rw [ew]
  have HS:=hid hs
  have HST:Hid (∀w',LocBox w' a.lb c.locs→Calls Tryz.prog 82 #[.slice (some ⟨a.lb,0,none⟩) c.locs.length a.lc,.int .i64 (m:Int),vaV v] w' fun e w2=>e=.returned (.tuple #[])∧LocBox w2 a.lb (stoP c.locs m v)∧Only a.lb w' w2):=fun w' hL=>store_any a.lb c.locs m a.lc v w' hL hok hm (fun x=>by have:=h2 x;omega)
  clear hH hC C hs hw F0 ew hok h2 hbs
  go_enter Tryz.func88,Tryz.ntmps88
  go_wp2_with (go_at_call 161;refine (stops_any w0 g p h _ HH.out).mono ?_;rintro e w1 ⟨he,hw1⟩;rw [HS.out] at he;subst he;rw [hw1];clear hw1 w1)
  refine wp_region_held_drew (S:=fun w'=>w'.cell? ⟨a.q,8,none⟩=some (.slice (some ⟨a.lb,0,none⟩) c.locs.length a.lc)∧w'.cell? ⟨w.heap.size,0,none⟩=some (.int .i64 v.kind)∧w'.cell? ⟨w.heap.size,1,none⟩=some (.int .i64 v.n)) (by kernel_rfl) ?_ (fun hHeld0=>?_)
  ·exact z0.out
  iterate 6 (refine tn rfl (by kernel_rfl) (fun _ _ _ h=>h) (by intro _ h;go_split_ands;go_simp<;>with_reducible rfl) hHeld0 ?_;try simp only [aS,aN,aT,a0,a1])
  refine rd1 (i:=6) (by kernel_rfl) rfl fun K hK=>?_
  go_simp
  go_at_call 82
  refine (HST.out ((w.alloc (vaO v)).drew) ⟨HA.out.loc.blk,HA.out.loc.len⟩).mono ?_
  rintro e w1 ⟨rfl,L1,O1⟩
  have A1:=hid (HA.out.setLoc (w':=w1) ⟨O1.os,O1.tape,O1.output,O1.size,O1.block⟩ L1 (stoP_length _ _ _))
  have V1:=hid (Only.box (w:=(w.alloc (vaO v))) ⟨O1.os,O1.tape,O1.output,O1.size,O1.block⟩ HV0.out (by omega))
  have k8:w1.cell? ⟨a.q,8,none⟩=some (.slice (some ⟨a.lb,0,none⟩) c.locs.length a.lc):=by have:=A1.out.cells.c8;dsimp only at this;rw [stoP_length] at this;exact this
  have d0:=hid (And.intro k8 (And.intro V1.out.c0 V1.out.c1))
  have O1:Hid (Only a.lb (w.alloc (vaO v)) w1):=⟨O1.os,O1.tape,O1.output,O1.size,O1.block⟩
  go_wp2_with fail
  refine hK.out _ _ (d0.out) (fun hHeld1=>?_)
  try simp only [aS,aN,aT,a0,a1]
  refine wpAnyH_done (by kernel_rfl) ?_ _
  go_wp2
  go_end0
  exact ⟨rfl,HH.out.cf (Only.cf O1.out HC.out.k HA.out.loc HA.out.ownl HBS.out),A1.out,HF.out.fq.trans (Only.fq O1.out HA.out.ownl HBS.out)⟩
structure IBox (w:World) (b:Nat) (k ia ib ic ii:Int) (Q:Option Addr) (nl q:Nat):Prop where
 blk:w.heap[b]?=some (.cells #[.int .i64 k,.int .i64 ia,.int .i64 ib,.int .i64 ic,.int .i64 ii,.slice Q nl q] 58 (0,0))
theorem IBox.cs {w:World} {b:Nat} {k ia ib ic ii:Int} {Q:Option Addr} {nl q:Nat} (h:IBox w b k ia ib ic ii Q nl q):w.cell? ⟨b,0,none⟩=some (.int .i64 k)∧w.cell? ⟨b,1,none⟩=some (.int .i64 ia)∧w.cell? ⟨b,2,none⟩=some (.int .i64 ib)∧w.cell? ⟨b,3,none⟩=some (.int .i64 ic)∧w.cell? ⟨b,4,none⟩=some (.int .i64 ii)∧w.cell? ⟨b,5,none⟩=some (.slice Q nl q):=by
 refine ⟨?_,?_,?_,?_,?_,?_⟩<;>(rw [cell_blk h.blk];rfl)
theorem IBox.keep {B:Nat} {T:TypeId} {w w':World} {b:Nat} {k ia ib ic ii:Int} {Q:Option Addr} {nl q:Nat} (h:IBox w b k ia ib ic ii Q nl q) (t:Tk T) (f:Fr B T w w'):IBox w' b k ia ib ic ii Q nl q :=
 ⟨f.keep _ _ _ _ h.blk (by rintro (h|h|h|h)<;>first|exact t.n h.symm|exact absurd h (by decide))⟩
theorem Cq.same {w0:World} {g:Ad} {h h':Hp} (C:Cq w0 g h) (e:h'.file=h.file):Cq w0 g h':=by
 obtain ⟨⟨c1,c2,c3,c4,c5,c6⟩,t⟩:=C
 exact ⟨⟨c1,by rw [e];exact c2,by rw [e];exact c3,by rw [e];exact c4,by rw [e];exact c5,by rw [e];exact c6⟩,t⟩
theorem rdH_file (h:Hp) (c:Cal) (n k:Int):(h.rdH c n k).file=h.file:=by unfold Hp.rdH Hp.must;split;rfl;unfold Hp.fin;split<;>rfl
theorem qpre1 {w0:World} {g:Ad} {p:Nat} {h:Hp} {w:World} (k ia ib ic ii:Int) (Q:Option Addr) (nl q:Nat) (u:Va) (hH:Hs w0 g w p h) :
  Fr w0.heap.size g.T w (((w.alloc (.cells #[.int .i64 k,.int .i64 ia,.int .i64 ib,.int .i64 ic,.int .i64 ii,.slice Q nl q] 58)).alloc (vaO u)).alloc vzO)∧Hs w0 g (((w.alloc (.cells #[.int .i64 k,.int .i64 ia,.int .i64 ib,.int .i64 ic,.int .i64 ii,.slice Q nl q] 58)).alloc (vaO u)).alloc vzO) p h∧VaBox (((w.alloc (.cells #[.int .i64 k,.int .i64 ia,.int .i64 ib,.int .i64 ic,.int .i64 ii,.slice Q nl q] 58)).alloc (vaO u)).alloc vzO) (w.heap.size+1) u:=by
 have hb:=hH.base
 have s1:(w.alloc (.cells #[.int .i64 k,.int .i64 ia,.int .i64 ib,.int .i64 ic,.int .i64 ii,.slice Q nl q] 58)).heap.size=w.heap.size+1:=by simp
 have s2:((w.alloc (.cells #[.int .i64 k,.int .i64 ia,.int .i64 ib,.int .i64 ic,.int .i64 ii,.slice Q nl q] 58)).alloc (vaO u)).heap.size=w.heap.size+1+1:=by simp
 refine ⟨(((Fr.refl _ _ w).alloc hb _).alloc (by simp;omega) _).alloc (by simp;omega) _,hH.cf ((((Cf.refl _ _ w).alloc hb _).alloc (by simp;omega) _).alloc (by simp;omega) _),⟨?_⟩⟩
 rw [Below.heap_alloc _ _ _ (by omega),←s1];exact blk_new _ _ _
theorem qpre {w0:World} {g:Ad} {p:Nat} {h:Hp} {a:Ca} {c:Cal} {w:World} (k ia ib ic ii:Int) (Q:Option Addr) (nl q:Nat) (hH:Hs w0 g w p h) (hC:CalAt w0 w a c) (C:Cq w0 g h) :
  Hid (Fr w0.heap.size g.T w (((w.alloc (.cells #[.int .i64 k,.int .i64 ia,.int .i64 ib,.int .i64 ic,.int .i64 ii,.slice Q nl q] 58)).alloc vzO).alloc vzO))∧Hid (Hs w0 g (((w.alloc (.cells #[.int .i64 k,.int .i64 ia,.int .i64 ib,.int .i64 ic,.int .i64 ii,.slice Q nl q] 58)).alloc vzO).alloc vzO) p h)∧Hid (CalAt w0 (((w.alloc (.cells #[.int .i64 k,.int .i64 ia,.int .i64 ib,.int .i64 ic,.int .i64 ii,.slice Q nl q] 58)).alloc vzO).alloc vzO) a c)∧Hid (IBox (((w.alloc (.cells #[.int .i64 k,.int .i64 ia,.int .i64 ib,.int .i64 ic,.int .i64 ii,.slice Q nl q] 58)).alloc vzO).alloc vzO) w.heap.size k ia ib ic ii Q nl q)∧Hid (VaBox (((w.alloc (.cells #[.int .i64 k,.int .i64 ia,.int .i64 ib,.int .i64 ic,.int .i64 ii,.slice Q nl q] 58)).alloc vzO).alloc vzO) (w.heap.size+1) va0)∧Hid (VaBox (((w.alloc (.cells #[.int .i64 k,.int .i64 ia,.int .i64 ib,.int .i64 ic,.int .i64 ii,.slice Q nl q] 58)).alloc vzO).alloc vzO) (w.heap.size+1+1) va0)∧Hid (Cq w0 g h)∧w0.heap.size≤w.heap.size∧a.q<w.heap.size∧a.lb<w.heap.size:=by
 have hb:=hH.base
 have F0:Fr w0.heap.size g.T w (((w.alloc (.cells #[.int .i64 k,.int .i64 ia,.int .i64 ib,.int .i64 ic,.int .i64 ii,.slice Q nl q] 58)).alloc vzO).alloc vzO):=(((Fr.refl _ _ w).alloc hb _).alloc (by simp;omega) _).alloc (by simp;omega) _
 have s1:(w.alloc (.cells #[.int .i64 k,.int .i64 ia,.int .i64 ib,.int .i64 ic,.int .i64 ii,.slice Q nl q] 58)).heap.size=w.heap.size+1:=by simp
 have s2:((w.alloc (.cells #[.int .i64 k,.int .i64 ia,.int .i64 ib,.int .i64 ic,.int .i64 ii,.slice Q nl q] 58)).alloc vzO).heap.size=w.heap.size+1+1:=by simp
 refine ⟨F0,hH.cf ((((Cf.refl _ _ w).alloc hb _).alloc (by simp;omega) _).alloc (by simp;omega) _),hC.fr C.k C.n7 F0,⟨?_⟩,⟨?_⟩,⟨?_⟩,C,hb,lt_some hC.blk,lt_some hC.loc.blk⟩
 ·rw [Below.heap_alloc _ _ _ (by omega),Below.heap_alloc _ _ _ (by omega)];exact blk_new _ _ _
 ·rw [Below.heap_alloc _ _ _ (by omega),←s1];exact blk_new _ _ _
 ·rw [←s2];exact blk_new _ _ _
theorem qgives_op1 (w0:World) (g:Ad) (p:Nat) (h:Hp) (a:Ca) (c:Cal) (ia ib ic ii:Int) (args:List Int) (Q:Option Addr) (nl q:Nat) (w:World) (hH:Hs w0 g w p h) (hC:CalAt w0 w a c) (C:Cq w0 g h) :
  Calls Tryz.prog 167 #[.pointer (some ⟨p,0,none⟩),.pointer (some ⟨a.q,0,none⟩),.agg #[.int .i64 1,.int .i64 ia,.int .i64 ib,.int .i64 ic,.int .i64 ii,.slice Q nl q]] w fun e w'=>e=.returned (vaV (givesV h c ⟨1,ia,ib,ic,ii,args⟩))∧Hs w0 g w' p (givesH h c ⟨1,ia,ib,ic,ii,args⟩)∧Fr w0.heap.size g.T w w':=by
 have HP:=hid (qpre1 1 ia ib ic ii Q nl q ⟨1,ii⟩ hH)
 obtain ⟨HF,HH,HA,HI,HR,HN,HC,hb,hq,hl⟩:=qpre 1 ia ib ic ii Q nl q hH hC C
 clear hH hC C
 have eH:givesH h c ⟨1,ia,ib,ic,ii,args⟩=h:=by simp [givesH]
 have eV:givesV h c ⟨1,ia,ib,ic,ii,args⟩=⟨1,ii⟩:=by simp [givesV]
 rw [eH,eV]
 clear eH eV
 go_enter Tryz.func167,Tryz.ntmps167
 go_wp2
 refine bodyPost_ret (results_cell_row rfl _ _ (w.heap.size+1) _ _ _ _ rfl HP.out.2.2.blk Tryz.underlying82 rfl info_va) rfl ?_
 exact ⟨rfl,HP.out.2.1,HP.out.1⟩
theorem qgives_op2 (w0:World) (g:Ad) (p:Nat) (h:Hp) (a:Ca) (c:Cal) (ia ib ic ii:Int) (args:List Int) (Q:Option Addr) (nl q:Nat) (w:World) (hH:Hs w0 g w p h) (hC:CalAt w0 w a c) (C:Cq w0 g h) :
  Calls Tryz.prog 167 #[.pointer (some ⟨p,0,none⟩),.pointer (some ⟨a.q,0,none⟩),.agg #[.int .i64 2,.int .i64 ia,.int .i64 ib,.int .i64 ic,.int .i64 ii,.slice Q nl q]] w fun e w'=>e=.returned (vaV (givesV h c ⟨2,ia,ib,ic,ii,args⟩))∧Hs w0 g w' p (givesH h c ⟨2,ia,ib,ic,ii,args⟩)∧Fr w0.heap.size g.T w w':=by
 have HP:=hid (qpre1 2 ia ib ic ii Q nl q ⟨2,ii⟩ hH)
 obtain ⟨HF,HH,HA,HI,HR,HN,HC,hb,hq,hl⟩:=qpre 2 ia ib ic ii Q nl q hH hC C
 clear hH hC C
 have eH:givesH h c ⟨2,ia,ib,ic,ii,args⟩=h:=by simp [givesH]
 have eV:givesV h c ⟨2,ia,ib,ic,ii,args⟩=⟨2,ii⟩:=by simp [givesV]
 rw [eH,eV]
 clear eH eV
 go_enter Tryz.func167,Tryz.ntmps167
 go_wp2
 refine bodyPost_ret (results_cell_row rfl _ _ (w.heap.size+1) _ _ _ _ rfl HP.out.2.2.blk Tryz.underlying82 rfl info_va) rfl ?_
 exact ⟨rfl,HP.out.2.1,HP.out.1⟩
theorem qgives_op3 (w0:World) (g:Ad) (p:Nat) (h:Hp) (a:Ca) (c:Cal) (ia ib ic ii:Int) (args:List Int) (Q:Option Addr) (nl q:Nat) (w:World) (hH:Hs w0 g w p h) (hC:CalAt w0 w a c) (C:Cq w0 g h) :
  Calls Tryz.prog 167 #[.pointer (some ⟨p,0,none⟩),.pointer (some ⟨a.q,0,none⟩),.agg #[.int .i64 3,.int .i64 ia,.int .i64 ib,.int .i64 ic,.int .i64 ii,.slice Q nl q]] w fun e w'=>e=.returned (vaV (givesV h c ⟨3,ia,ib,ic,ii,args⟩))∧Hs w0 g w' p (givesH h c ⟨3,ia,ib,ic,ii,args⟩)∧Fr w0.heap.size g.T w w':=by
 have HP:=hid (qpre1 3 ia ib ic ii Q nl q ⟨3,-1⟩ hH)
 obtain ⟨HF,HH,HA,HI,HR,HN,HC,hb,hq,hl⟩:=qpre 3 ia ib ic ii Q nl q hH hC C
 clear hH hC C
 have eH:givesH h c ⟨3,ia,ib,ic,ii,args⟩=h:=by simp [givesH]
 have eV:givesV h c ⟨3,ia,ib,ic,ii,args⟩=⟨3,-1⟩:=by simp [givesV]
 rw [eH,eV]
 clear eH eV
 go_enter Tryz.func167,Tryz.ntmps167
 go_wp2
 refine bodyPost_ret (results_cell_row rfl _ _ (w.heap.size+1) _ _ _ _ rfl HP.out.2.2.blk Tryz.underlying82 rfl info_va) rfl ?_
 exact ⟨rfl,HP.out.2.1,HP.out.1⟩
theorem qgives_op4 (w0:World) (g:Ad) (p:Nat) (h:Hp) (a:Ca) (c:Cal) (ia ib ic ii:Int) (args:List Int) (Q:Option Addr) (nl q:Nat) (w:World) (hH:Hs w0 g w p h) (hC:CalAt w0 w a c) (C:Cq w0 g h) (hrb:0≤ib∧ib<c.locs.length) :
  Calls Tryz.prog 167 #[.pointer (some ⟨p,0,none⟩),.pointer (some ⟨a.q,0,none⟩),.agg #[.int .i64 4,.int .i64 ia,.int .i64 ib,.int .i64 ic,.int .i64 ii,.slice Q nl q]] w fun e w'=>e=.returned (vaV (givesV h c ⟨4,ia,ib,ic,ii,args⟩))∧Hs w0 g w' p (givesH h c ⟨4,ia,ib,ic,ii,args⟩)∧Fr w0.heap.size g.T w w':=by
 obtain ⟨HF,HH,HA,HI,HR,HN,HC,hb,hq,hl⟩:=qpre 4 ia ib ic ii Q nl q hH hC C
 clear hH hC C
 have eH:givesH h c ⟨4,ia,ib,ic,ii,args⟩=h.rdH c ib ic:=by simp [givesH]
 have eV:givesV h c ⟨4,ia,ib,ic,ii,args⟩=c.rd ib:=by simp [givesV]
 rw [eH,eV]
 clear eH eV
 go_enter Tryz.func167,Tryz.ntmps167
 go_wp2_with (go_at_call 86;refine (yread_any w0 g p h a c ib ic _ HH.out HA.out HC.out hrb).mono ?_;rintro e w1 ⟨rfl,H1,F1⟩;have R:=hid (HR.out.keep HC.out.k F1);have r0:=R.out.c0;have r1:=R.out.c1;have fz:=R.out.fr;have I1:=HI.out.keep HC.out.k F1;obtain ⟨i0,i1,i2,i3,i4,i5⟩:=I1.cs;replace I1:=hid I1;have N1:=HN.out.keep HC.out.k F1;have n0:=N1.c0;have n1:=N1.c1;replace N1:=hid N1;have hw1:=lt_some I1.out.blk;have hw2:=lt_some N1.out.blk;have hx1:w1.heap.size≠w.heap.size+1:=(by omega);have hx2:w.heap.size+1≠w1.heap.size:=(by omega);have r0a:∀o,(w1.alloc o).cell? ⟨w.heap.size+1,0,none⟩=some (.int .i64 0):=(fun o=>((Bl.refl w1).alloc o).cell r0);have r1a:∀o,(w1.alloc o).cell? ⟨w.heap.size+1,1,none⟩=some (.int .i64 0):=(fun o=>((Bl.refl w1).alloc o).cell r1);have R2:Hid (VaBox (w1.alloc (vaO (c.rd ib))) (w.heap.size+1) va0):=⟨(Below.heap_alloc _ _ _ (lt_some R.out.blk)).trans R.out.blk⟩;have fza:∀i,(w1.alloc (vaO (c.rd ib))).frozen? ⟨w.heap.size+1,i,none⟩=false:=(fun i=>R2.out.fr i);have r0b:=R2.out.c0;have r1b:=R2.out.c1;replace H1:=hid H1;replace F1:=hid (HF.out.trans F1))
 refine bodyPost_ret (results_cell_row rfl _ _ (w.heap.size+1) _ _ _ _ rfl (R.out.set (c.rd ib)).blk Tryz.underlying82 rfl info_va) rfl ?_
 exact ⟨rfl,H1.out.cf (R.out.cf HC.out.k (by omega) _ _),(F1.out.new (Nat.le_succ _) (by omega) _).new (Nat.le_succ _) (by omega) _⟩
theorem qgives_op7 (w0:World) (g:Ad) (p:Nat) (h:Hp) (a:Ca) (c:Cal) (ia ib ic ii:Int) (args:List Int) (Q:Option Addr) (nl q:Nat) (w:World) (hH:Hs w0 g w p h) (hC:CalAt w0 w a c) (C:Cq w0 g h) (hrb:0≤ib∧ib<c.locs.length) :
  Calls Tryz.prog 167 #[.pointer (some ⟨p,0,none⟩),.pointer (some ⟨a.q,0,none⟩),.agg #[.int .i64 7,.int .i64 ia,.int .i64 ib,.int .i64 ic,.int .i64 ii,.slice Q nl q]] w fun e w'=>e=.returned (vaV (givesV h c ⟨7,ia,ib,ic,ii,args⟩))∧Hs w0 g w' p (givesH h c ⟨7,ia,ib,ic,ii,args⟩)∧Fr w0.heap.size g.T w w':=by
 obtain ⟨HF,HH,HA,HI,HR,HN,HC,hb,hq,hl⟩:=qpre 7 ia ib ic ii Q nl q hH hC C
 clear hH hC C
 have eH:givesH h c ⟨7,ia,ib,ic,ii,args⟩=h.rdH c ib 1:=by simp [givesH]
 have eV:givesV h c ⟨7,ia,ib,ic,ii,args⟩=⟨2,(c.rd ib).n⟩:=by simp [givesV]
 rw [eH,eV]
 clear eH eV
 go_enter Tryz.func167,Tryz.ntmps167
 go_wp2_with (go_at_call 86;refine (yread_any w0 g p h a c ib 1 _ HH.out HA.out HC.out hrb).mono ?_;rintro e w1 ⟨rfl,H1,F1⟩;have R:=hid (HR.out.keep HC.out.k F1);have r0:=R.out.c0;have r1:=R.out.c1;have fz:=R.out.fr;have I1:=HI.out.keep HC.out.k F1;obtain ⟨i0,i1,i2,i3,i4,i5⟩:=I1.cs;replace I1:=hid I1;have N1:=HN.out.keep HC.out.k F1;have n0:=N1.c0;have n1:=N1.c1;replace N1:=hid N1;have hw1:=lt_some I1.out.blk;have hw2:=lt_some N1.out.blk;have hx1:w1.heap.size≠w.heap.size+1:=(by omega);have hx2:w.heap.size+1≠w1.heap.size:=(by omega);have r0a:∀o,(w1.alloc o).cell? ⟨w.heap.size+1,0,none⟩=some (.int .i64 0):=(fun o=>((Bl.refl w1).alloc o).cell r0);have r1a:∀o,(w1.alloc o).cell? ⟨w.heap.size+1,1,none⟩=some (.int .i64 0):=(fun o=>((Bl.refl w1).alloc o).cell r1);have R2:Hid (VaBox (w1.alloc (vaO (c.rd ib))) (w.heap.size+1) va0):=⟨(Below.heap_alloc _ _ _ (lt_some R.out.blk)).trans R.out.blk⟩;have fza:∀i,(w1.alloc (vaO (c.rd ib))).frozen? ⟨w.heap.size+1,i,none⟩=false:=(fun i=>R2.out.fr i);have r0b:=R2.out.c0;have r1b:=R2.out.c1;replace H1:=hid H1;replace F1:=hid (HF.out.trans F1))
 first
  | (refine bodyPost_ret (results_cell_row rfl _ _ (w.heap.size+1) _ _ _ _ rfl (R2.out.set ⟨2,(c.rd ib).n⟩).blk Tryz.underlying82 rfl info_va) rfl ?_;exact ⟨rfl,(H1.out.cf ((Cf.refl _ _ _).alloc (by omega) _)).cf (R2.out.cf HC.out.k (by omega) _ _),((F1.out.alloc (by omega) _).new (Nat.le_succ _) (by omega) _).new (Nat.le_succ _) (by omega) _⟩)
  | (refine bodyPost_ret (results_cell_row rfl _ _ (w.heap.size+1) _ _ _ _ rfl ((Below.heap_alloc _ _ _ (by simp;exact lt_some R.out.blk)).trans (R.out.set ⟨2,(c.rd ib).n⟩).blk) Tryz.underlying82 rfl info_va) rfl ?_;exact ⟨rfl,(H1.out.cf (R.out.cf HC.out.k (by omega) _ _)).cf ((Cf.refl _ _ _).alloc (by simp;omega) _),((F1.out.new (Nat.le_succ _) (by omega) _).new (Nat.le_succ _) (by omega) _).alloc (by simp;omega) _⟩)
theorem qgives_op8 (w0:World) (g:Ad) (p:Nat) (h:Hp) (a:Ca) (c:Cal) (ia ib ic ii:Int) (args:List Int) (Q:Option Addr) (nl q:Nat) (w:World) (hH:Hs w0 g w p h) (hC:CalAt w0 w a c) (C:Cq w0 g h) (hrb:0≤ib∧ib<c.locs.length) :
  Calls Tryz.prog 167 #[.pointer (some ⟨p,0,none⟩),.pointer (some ⟨a.q,0,none⟩),.agg #[.int .i64 8,.int .i64 ia,.int .i64 ib,.int .i64 ic,.int .i64 ii,.slice Q nl q]] w fun e w'=>e=.returned (vaV (givesV h c ⟨8,ia,ib,ic,ii,args⟩))∧Hs w0 g w' p (givesH h c ⟨8,ia,ib,ic,ii,args⟩)∧Fr w0.heap.size g.T w w':=by
 obtain ⟨HF,HH,HA,HI,HR,HN,HC,hb,hq,hl⟩:=qpre 8 ia ib ic ii Q nl q hH hC C
 clear hH hC C
 have eH:givesH h c ⟨8,ia,ib,ic,ii,args⟩=h.rdH c ib 2:=by simp [givesH]
 have eV:givesV h c ⟨8,ia,ib,ic,ii,args⟩=⟨1,wrap32 (c.rd ib).n⟩:=by simp [givesV]
 rw [eH,eV]
 clear eH eV
 go_enter Tryz.func167,Tryz.ntmps167
 go_wp2_with (first
  | (go_at_call 86;refine (yread_any w0 g p h a c ib 2 _ HH.out HA.out HC.out hrb).mono ?_;rintro e w1 ⟨rfl,H1,F1⟩;have R:=hid (HR.out.keep HC.out.k F1);have r0:=R.out.c0;have r1:=R.out.c1;have fz:=R.out.fr;have I1:=HI.out.keep HC.out.k F1;obtain ⟨i0,i1,i2,i3,i4,i5⟩:=I1.cs;replace I1:=hid I1;have N1:=HN.out.keep HC.out.k F1;have n0:=N1.c0;have n1:=N1.c1;replace N1:=hid N1;have hw1:=lt_some I1.out.blk;have hw2:=lt_some N1.out.blk;have hx1:w1.heap.size≠w.heap.size+1:=(by omega);have hx2:w.heap.size+1≠w1.heap.size:=(by omega);have r0a:∀o,(w1.alloc o).cell? ⟨w.heap.size+1,0,none⟩=some (.int .i64 0):=(fun o=>((Bl.refl w1).alloc o).cell r0);have r1a:∀o,(w1.alloc o).cell? ⟨w.heap.size+1,1,none⟩=some (.int .i64 0):=(fun o=>((Bl.refl w1).alloc o).cell r1);have R2:Hid (VaBox (w1.alloc (vaO (c.rd ib))) (w.heap.size+1) va0):=⟨(Below.heap_alloc _ _ _ (lt_some R.out.blk)).trans R.out.blk⟩;have fza:∀i,(w1.alloc (vaO (c.rd ib))).frozen? ⟨w.heap.size+1,i,none⟩=false:=(fun i=>R2.out.fr i);have r0b:=R2.out.c0;have r1b:=R2.out.c1;replace H1:=hid H1;replace F1:=hid (HF.out.trans F1))
  | (go_at_call 80;refine (rnarrow_any (c.rd ib).n _).mono ?_;rintro e w2 ⟨rfl,hw⟩;rw [hw];clear hw w2))
 first
  | (refine bodyPost_ret (results_cell_row rfl _ _ (w.heap.size+1) _ _ _ _ rfl (R2.out.set ⟨1,wrap32 (c.rd ib).n⟩).blk Tryz.underlying82 rfl info_va) rfl ?_;exact ⟨rfl,(H1.out.cf ((Cf.refl _ _ _).alloc (by omega) _)).cf (R2.out.cf HC.out.k (by omega) _ _),((F1.out.alloc (by omega) _).new (Nat.le_succ _) (by omega) _).new (Nat.le_succ _) (by omega) _⟩)
  | (refine bodyPost_ret (results_cell_row rfl _ _ (w.heap.size+1) _ _ _ _ rfl ((Below.heap_alloc _ _ _ (by simp;exact lt_some R.out.blk)).trans (R.out.set ⟨1,wrap32 (c.rd ib).n⟩).blk) Tryz.underlying82 rfl info_va) rfl ?_;exact ⟨rfl,(H1.out.cf (R.out.cf HC.out.k (by omega) _ _)).cf ((Cf.refl _ _ _).alloc (by simp;omega) _),((F1.out.new (Nat.le_succ _) (by omega) _).new (Nat.le_succ _) (by omega) _).alloc (by simp;omega) _⟩)
end Go.Proofs.YtgiiapenmjollabGreat
