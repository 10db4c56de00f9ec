/-
  RrunLonger: for every file, any entry, arguments and input, and two fuels of up to 3000 steps, the run on registers that has more fuel goes on as the other one began, and the one that has ended stays so. No condition.
-/
import Derived.Test.YtgiiapenmjollabGreatRlbs
import Derived.Test.YtgiiapenmjollabGreatRlbt
import Derived.Test.YtgiiapenmjollabGreatRows
import Derived.ProofKit
import Derived.Carry
namespace Go.Proofs.YtgiiapenmjollabGreat
set_option linter.all false
set_option maxHeartbeats 40000000
set_option maxRecDepth 100000
open Go.RowKit
section
open Go.ChangeShapes Go.WideShapes Go.ChangeAt Go.RowKit Go.Deep
theorem sl_own:ownKnob Tryz.prog.godebug=none:=by kernel_rfl
theorem sl_laidOut:laidOutB Tryz.prog=true:=by kernel_rfl
theorem sl_lifted (os:Os) (started:os.Started) (H:Type) (enc:TypeId×Value→H) :
  ReturnsInHanded {} Tryz.checked os 3 .any (Rows.rrunLongerSpec.pre6 enc Tryz.prog Tryz.f3 Rows.rrunLongerRow.domain false) (Rows.rrunLongerSpec.post enc Tryz.prog Tryz.f3 false true false false):=by
 refine returnsInHanded_of_change (C:=Tryz.checked) sl_own started (by kernel_rfl) Tryz.func3
  (ChangeSpec.witness6 (enc:=enc) (C:=Tryz.checked) false ⟨#[],#[.agg #[.slice none 0 0,.slice none 0 0],.int .i64 0,.slice none 0 0,.slice none 0 0,.int .i64 0,.int .i64 0],[]⟩ 8 (by kernel_rfl) (by kernel_rfl) (by kernel_rfl) (by kernel_rfl)) ?_
 intro W base args ds gs before hval0 hW hcnd _
 have hval:∀(j:Nat) t v,Tryz.f3.params[j]?=some t→args[j]?=some v→Value.okWide Tryz.prog W .any base t v:=hval0
 have hW':=hW
 obtain ⟨p,q,hA0,hV,rfl,hfz,hnd⟩:=hW
 have hA:DataW.TrodAll enc Tryz.prog W 0 (fun _=>true) true Tryz.f3.params.toList args.toList ds p:=hA0
 rw [Tryz.params3] at hA hval
 obtain ⟨v0,vs0,d0,ds0,p0,q0,hargs,rfl,rfl,h0,r0⟩:=trodAll_cons hA
 obtain ⟨v1,vs1,d1,ds1,p1,q1,rfl,rfl,rfl,h1,r1⟩:=trodAll_cons r0
 obtain ⟨v2,vs2,d2,ds2,p2,q2,rfl,rfl,rfl,h2,r2⟩:=trodAll_cons r1
 obtain ⟨v3,vs3,d3,ds3,p3,q3,rfl,rfl,rfl,h3,r3⟩:=trodAll_cons r2
 obtain ⟨v4,vs4,d4,ds4,p4,q4,rfl,rfl,rfl,h4,r4⟩:=trodAll_cons r3
 obtain ⟨v5,vs5,d5,ds5,p5,q5,rfl,rfl,rfl,h5,r5⟩:=trodAll_cons r4
 obtain ⟨rfl,rfl,rfl⟩:=trodAll_nil r5
 obtain rfl:args=#[v0,v1,v2,v3,v4,v5]:=by cases args;simp_all
 obtain ⟨rfl,rfl⟩:=trodVars_none hV
 obtain ⟨cs,rfl,hsz⟩:=okWide_struct Tryz.underlying25 (hval 0 25 v0 rfl rfl)
 obtain ⟨entry,rfl,rfl,rfl,w1⟩:=open_int Tryz.underlying3 (hval 1 3 v1 rfl rfl) h1
 obtain ⟨A2,n2,c2,rfl⟩:=okWide_slice Tryz.underlying26 (hval 2 26 v2 rfl rfl)
 obtain ⟨A3,n3,c3,rfl⟩:=okWide_slice Tryz.underlying26 (hval 3 26 v3 rfl rfl)
 obtain ⟨a4,rfl,rfl,rfl,w4⟩:=open_int Tryz.underlying3 (hval 4 3 v4 rfl rfl) h4
 obtain ⟨a5,rfl,rfl,rfl,w5⟩:=open_int Tryz.underlying3 (hval 5 3 v5 rfl rfl) h5
 have h0k:=h0
 have h2k:=h2
 have h3k:=h3
 obtain ⟨fuel0,hf0⟩:=h0
 obtain ⟨fuel2,hf2⟩:=h2
 obtain ⟨fuel3,hf3⟩:=h3
 obtain ⟨f,A,B,a,b,hcs,hA1,hB1⟩:=open_file hf0
 obtain ⟨R,largs,cr,hcr,hR1⟩:=open_longs hf2
 obtain ⟨I,linput,ci,hci,hI1⟩:=open_longs hf3
 clear hA0 hval0
 simp only [List.append_nil,List.nil_append] at hW'
 simp [Value.cells] at hcs hcr hci
 obtain ⟨rfl,rfl,rfl⟩:=hcr
 obtain ⟨rfl,rfl,rfl⟩:=hci
 obtain rfl:cs=#[.slice A f.classes.length a,.slice B f.methods.length b]:=by cases cs;simp_all
 have hlt:∀x∈p0++(p2++p3),x.block<W.heap.size:=fun x hx=>hW'.lt x (by simpa using hx)
 refine (sl_walk f A B A2 A3 a b c2 c3 entry a4 a5 largs linput W hA1 hB1 hI1 hR1).mono fun e W' ⟨he,hbl⟩=>?_
 subst he
 refine ⟨_,rfl,_,_,_,[],p0++(p2++p3),[],hW',trodAll_cons_mk (shut_bool Tryz.underlying4 _) trodAll_mk0,?_,rfl,Below.frame hbl _,fun h=>by cases h⟩
 have harg0:DataW.Trod enc Tryz.prog W' 0 (fun b=>decide (b<W.heap.size)) true 25 (.agg #[.slice A f.classes.length a,.slice B f.methods.length b]) d0 p0 :=
  Below.trod sl_laidOut (by kernel_rfl) (of_decide_eq_true (by kernel_rfl)) h0k hbl (fun x hx=>hlt x (List.mem_append_left _ hx))
 have harg2:DataW.Trod enc Tryz.prog W' 0 (fun b=>decide (b<W.heap.size)) true 26 (.slice A2 largs.length c2) d2 p2 :=
  Below.trod sl_laidOut (by kernel_rfl) (of_decide_eq_true (by kernel_rfl)) h2k hbl (fun x hx=>hlt x (List.mem_append_right _ (List.mem_append_left _ hx)))
 have harg3:DataW.Trod enc Tryz.prog W' 0 (fun b=>decide (b<W.heap.size)) true 26 (.slice A3 linput.length c3) d3 p3 :=
  Below.trod sl_laidOut (by kernel_rfl) (of_decide_eq_true (by kernel_rfl)) h3k hbl (fun x hx=>hlt x (List.mem_append_right _ (List.mem_append_right _ hx)))
 have hall:=trodAll_cons_mk harg0 (trodAll_cons_mk (shut_int Tryz.underlying3 w1) (trodAll_cons_mk harg2 (trodAll_cons_mk harg3 (trodAll_cons_mk (shut_int Tryz.underlying3 w4) (trodAll_cons_mk (shut_int Tryz.underlying3 w5) trodAll_mk0)))))
 simp only [List.append_nil,List.nil_append] at hall
 exact hall
theorem sl_over:Rows.rrunLongerRow.holds Tryz.pinned (OpenSpec.ofChange Rows.rrunLongerSpec) :=
 OpenClaim.holds_of_wide 3 Tryz.f3 rfl rfl rfl rfl rfl rfl rfl ⟨rfl,rfl,rfl,rfl,rfl⟩ rfl rfl rfl rfl rfl rl_hfn Tryz.func3 rl_closed
  (of_decide_eq_true (by kernel_rfl)) (by unfold Func.isWrapper;first|(rw [if_pos (by decide +kernel)];kernel_rfl)|(rw [if_neg (by decide +kernel)];exact ⟨rfl,rfl⟩))
  (fun os started H enc _=>sl_lifted os started H enc)
theorem rrunLonger_holds:Rows.RrunLongerSaid :=
 sl_over
end
#print axioms rrunLonger_holds
end Go.Proofs.YtgiiapenmjollabGreat
