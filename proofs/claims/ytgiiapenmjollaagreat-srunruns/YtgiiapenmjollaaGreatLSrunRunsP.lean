/-
  PT: for every file, such as may not be among them, any entry, arguments and input, and up to 3000 steps (or beyond what may be), the program tells how it runs on a stack, or what is U0, as the document does. No condition.
-/
import Derived.Test.YtgiiapenmjollaaGreatSrat
import Derived.Test.YtgiiapenmjollaaGreatSrbd
import Derived.Test.YtgiiapenmjollaaGreatRows
import Derived.ProofKit
import Derived.Carry
namespace Go.Proofs.YtgiiapenmjollaaGreat
set_option linter.all false
set_option maxHeartbeats 40000000
set_option maxRecDepth 100000
open Go.RowKit
open Go.Value (int)
open Go.IntKind (i64)
section
open Go.ChangeShapes Go.WideShapes Go.ChangeAt Go.RowKit Go.Deep
theorem Nw:ownKnob Tryz.prog.godebug=none:=by kernel_rfl
theorem mW:laidOutB Tryz.prog=true:=by kernel_rfl
theorem Dg (os:Os) (started:os.Started) (H:Type) (enc:TypeId×Value->H) :
  ReturnsInHanded {} Tryz.checked os 3 .any (Rows.srunRunsSpec.pre6 enc Tryz.prog Tryz.f3 Rows.srunRunsRow.domain false) (Rows.srunRunsSpec.post enc Tryz.prog Tryz.f3 false true false false):=by
 refine returnsInHanded_of_change (C:=Tryz.checked) Nw started (by kernel_rfl) Tryz.func3
  (ChangeSpec.witness6 (enc:=enc) (C:=Tryz.checked) false ⟨#[],#[.agg #[.slice none 0 0,.slice none 0 0],.int .i64 0,.slice none 0 0,.slice none 0 0,.int .i64 0],[]⟩ 8 (by kernel_rfl) (by kernel_rfl) (by kernel_rfl) (by kernel_rfl)) ?_
 intro W base args ds gs before LD hW hcnd _
 have hval:∀(j:Nat) t v,Tryz.f3.params[j]?=some t->args[j]?=some v->Value.okWide Tryz.prog W .any base t v:=LD
 have Te:=hW
 obtain ⟨p,q,U1,hV,rfl,Qi,YY⟩:=hW
 have hA:DataW.TrodAll enc Tryz.prog W 0 (fun _=>true) true Tryz.f3.params.toList args.toList ds p:=U1
 rw [Tryz.params3] at hA hval
 obtain ⟨v0,Ni,d0,ds0,p0,q0,hargs,rfl,rfl,h0,r0⟩:=trodAll_cons hA
 obtain ⟨v1,YZ,d1,Yu,p1,q1,rfl,rfl,rfl,h1,r1⟩:=trodAll_cons r0
 obtain ⟨v2,xW,d2,Y0,p2,q2,rfl,rfl,rfl,h2,r2⟩:=trodAll_cons r1
 obtain ⟨v3,Y2,d3,Y3,p3,q3,rfl,rfl,rfl,h3,r3⟩:=trodAll_cons r2
 obtain ⟨v4,Y4,d4,Y5,p4,q4,rfl,rfl,rfl,h4,r4⟩:=trodAll_cons r3
 obtain ⟨rfl,rfl,rfl⟩:=trodAll_nil r4
 obtain rfl:args=#[v0,v1,v2,v3,v4]:=by cases args;simp_all
 obtain ⟨rfl,rfl⟩:=trodVars_none hV
 obtain ⟨cs,rfl,hsz⟩:=okWide_struct Tryz.underlying25 (hval 0 25 v0 rfl rfl)
 obtain ⟨entry,rfl,rfl,rfl,w1⟩:=open_int Tryz.underlying3 (hval 1 3 v1 rfl rfl) h1
 obtain ⟨A2,n2,c2,rfl⟩:=okWide_slice Tryz.underlying26 (hval 2 26 v2 rfl rfl)
 obtain ⟨A3,n3,c3,rfl⟩:=okWide_slice Tryz.underlying26 (hval 3 26 v3 rfl rfl)
 obtain ⟨a4,rfl,rfl,rfl,w4⟩:=open_int Tryz.underlying3 (hval 4 3 v4 rfl rfl) h4
 have XS:=h0
 have XT:=h2
 have XU:=h3
 obtain ⟨U2,LM⟩:=h0
 obtain ⟨U3,QK⟩:=h2
 obtain ⟨U4,XV⟩:=h3
 obtain ⟨f,A,B,a,b,XW,T1,XX⟩:=CI LM
 obtain ⟨R,LF,cr,hcr,vI⟩:=qV QK
 obtain ⟨I,Gu,ci,U5,QN⟩:=qV XV
 clear U1 LD
 simp only [List.append_nil,List.nil_append] at Te
 simp [Value.cells] at XW hcr U5
 obtain ⟨rfl,rfl,rfl⟩:=hcr
 obtain ⟨rfl,rfl,rfl⟩:=U5
 obtain rfl:cs=#[.slice A f.classes.length a,.slice B f.methods.length b]:=by cases cs;simp_all
 have hlt:∀x∈p0++(p2++p3),x.block<W.heap.size:=fun x hx=>Te.lt x (by simpa using hx)
 refine (Kz f A B A2 A3 a b c2 c3 entry a4 LF Gu W T1 XX QN vI).mono fun e W' ⟨he,hbl⟩=>?_
 subst he
 refine ⟨_,rfl,_,_,_,[],p0++(p2++p3),[],Te,trodAll_cons_mk (shut_bool Tryz.underlying4 _) trodAll_mk0,?_,rfl,Below.frame hbl _,fun h=>by cases h⟩
 have PU:DataW.Trod enc Tryz.prog W' 0 (fun b=>decide (b<W.heap.size)) true 25 (.agg #[.slice A f.classes.length a,.slice B f.methods.length b]) d0 p0 :=
  Below.trod mW (by kernel_rfl) (of_decide_eq_true (by kernel_rfl)) XS hbl (fun x hx=>hlt x (List.mem_append_left _ hx))
 have PV:DataW.Trod enc Tryz.prog W' 0 (fun b=>decide (b<W.heap.size)) true 26 (.slice A2 LF.length c2) d2 p2 :=
  Below.trod mW (by kernel_rfl) (of_decide_eq_true (by kernel_rfl)) XT hbl (fun x hx=>hlt x (List.mem_append_right _ (List.mem_append_left _ hx)))
 have PW:DataW.Trod enc Tryz.prog W' 0 (fun b=>decide (b<W.heap.size)) true 26 (.slice A3 Gu.length c3) d3 p3 :=
  Below.trod mW (by kernel_rfl) (of_decide_eq_true (by kernel_rfl)) XU hbl (fun x hx=>hlt x (List.mem_append_right _ (List.mem_append_right _ hx)))
 have PX:=trodAll_cons_mk PU (trodAll_cons_mk (shut_int Tryz.underlying3 w1) (trodAll_cons_mk PV (trodAll_cons_mk PW (trodAll_cons_mk (shut_int Tryz.underlying3 w4) trodAll_mk0))))
 simp only [List.append_nil,List.nil_append] at PX
 exact PX
theorem KA:Rows.srunRunsRow.holds Tryz.pinned (OpenSpec.ofChange Rows.srunRunsSpec) :=
 OpenClaim.holds_of_wide 3 Tryz.f3 rfl rfl rfl rfl rfl rfl rfl ⟨rfl,rfl,rfl,rfl,rfl⟩ rfl rfl rfl rfl rfl (by kernel_rfl) Tryz.func3 (by kernel_rfl)
  (of_decide_eq_true (by kernel_rfl)) (by unfold Func.isWrapper;first|(rw [if_pos (by decide +kernel)];kernel_rfl)|(rw [if_neg (by decide +kernel)];exact ⟨rfl,rfl⟩))
  (fun os started H enc _=>Dg os started H enc)
theorem srunRuns_holds:Rows.SrunRunsSaid :=
 KA
end
#print axioms srunRuns_holds
end Go.Proofs.YtgiiapenmjollaaGreat
