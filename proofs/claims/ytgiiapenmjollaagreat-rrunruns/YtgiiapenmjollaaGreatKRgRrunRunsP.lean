/-
  R6: for every file, such as may not be among them, any entry, arguments and input, and up to 3000 steps (or beyond what may be), the program tells how it runs on P4, or what is XY, as the document does. No condition.
-/
import Derived.Test.YtgiiapenmjollaaGreatRrbb
import Derived.Test.YtgiiapenmjollaaGreatRows
import Derived.ProofKit
import Derived.Carry
namespace Go.Proofs.YtgiiapenmjollaaGreat
set_option linter.all false
set_option maxHeartbeats 40000000
set_option maxRecDepth 100000
open Go.RowKit
open Go.Value (int)
open Go.IntKind (i64)
section
open Go.ChangeShapes Go.WideShapes Go.ChangeAt Go.RowKit Go.Deep
theorem PA:ownKnob Tryz.prog.godebug=none:=by kernel_rfl
theorem nj:laidOutB Tryz.prog=true:=by kernel_rfl
theorem EW (os:Os) (started:os.Started) (H:Type) (enc:TypeId×Value->H) :
  ReturnsInHanded {} Tryz.checked os 6 .any (Rows.rrunRunsSpec.pre6 enc Tryz.prog Tryz.f6 Rows.rrunRunsRow.domain false) (Rows.rrunRunsSpec.post enc Tryz.prog Tryz.f6 false true false false):=by
 refine returnsInHanded_of_change (C:=Tryz.checked) PA started (by kernel_rfl) Tryz.func6
  (ChangeSpec.witness6 (enc:=enc) (C:=Tryz.checked) false ⟨#[],#[.agg #[.slice none 0 0,.slice none 0 0],.int .i64 0,.slice none 0 0,.slice none 0 0,.int .i64 0],[]⟩ 8 (by kernel_rfl) (by kernel_rfl) (by kernel_rfl) (by kernel_rfl)) ?_
 intro W base args ds gs before Ns hW hcnd _
 have hval:∀(j:Nat) t v,Tryz.f6.params[j]?=some t->args[j]?=some v->Value.okWide Tryz.prog W .any base t v:=Ns
 have VH:=hW
 obtain ⟨p,q,XZ,hV,rfl,Sq,hnd⟩:=hW
 have hA:DataW.TrodAll enc Tryz.prog W 0 (fun _=>true) true Tryz.f6.params.toList args.toList ds p:=XZ
 rw [Tryz.params6] at hA hval
 obtain ⟨v0,G3,d0,ds0,p0,q0,hargs,rfl,rfl,h0,r0⟩:=trodAll_cons hA
 obtain ⟨v1,Za,d1,ds1,p1,q1,rfl,rfl,rfl,h1,r1⟩:=trodAll_cons r0
 obtain ⟨v2,SF,d2,ds2,p2,q2,rfl,rfl,rfl,h2,r2⟩:=trodAll_cons r1
 obtain ⟨v3,vs3,d3,ds3,p3,q3,rfl,rfl,rfl,h3,r3⟩:=trodAll_cons r2
 obtain ⟨v4,vs4,d4,ds4,p4,q4,rfl,rfl,rfl,h4,r4⟩:=trodAll_cons r3
 obtain ⟨rfl,rfl,rfl⟩:=trodAll_nil r4
 obtain rfl:args=#[v0,v1,v2,v3,v4]:=by cases args;simp_all
 obtain ⟨rfl,rfl⟩:=trodVars_none hV
 obtain ⟨cs,rfl,hsz⟩:=okWide_struct Tryz.underlying25 (hval 0 25 v0 rfl rfl)
 obtain ⟨entry,rfl,rfl,rfl,w1⟩:=open_int Tryz.underlying3 (hval 1 3 v1 rfl rfl) h1
 obtain ⟨A2,n2,c2,rfl⟩:=okWide_slice Tryz.underlying26 (hval 2 26 v2 rfl rfl)
 obtain ⟨A3,n3,c3,rfl⟩:=okWide_slice Tryz.underlying26 (hval 3 26 v3 rfl rfl)
 obtain ⟨a4,rfl,rfl,rfl,w4⟩:=open_int Tryz.underlying3 (hval 4 3 v4 rfl rfl) h4
 have h0k:=h0
 have h2k:=h2
 have h3k:=h3
 obtain ⟨Xu,MJ⟩:=h0
 obtain ⟨X2,QT⟩:=h2
 obtain ⟨X3,hf3⟩:=h3
 obtain ⟨f,A,B,a,b,hcs,Wz,hB1⟩:=EE MJ
 obtain ⟨R,Nt,cr,hcr,qy⟩:=sw QT
 obtain ⟨I,JD,ci,Nd,Tg⟩:=sw hf3
 clear XZ Ns
 simp only [List.append_nil,List.nil_append] at VH
 simp [Value.cells] at hcs hcr Nd
 obtain ⟨rfl,rfl,rfl⟩:=hcr
 obtain ⟨rfl,rfl,rfl⟩:=Nd
 obtain rfl:cs=#[.slice A f.classes.length a,.slice B f.methods.length b]:=by cases cs;simp_all
 have hlt:∀x∈p0++(p2++p3),x.block<W.heap.size:=fun x hx=>VH.lt x (by simpa using hx)
 refine (MA f A B A2 A3 a b c2 c3 entry a4 Nt JD W Wz hB1 Tg qy).mono fun e W' ⟨he,hbl⟩=>?_
 subst he
 refine ⟨_,rfl,_,_,_,[],p0++(p2++p3),[],VH,trodAll_cons_mk (shut_bool Tryz.underlying4 _) trodAll_mk0,?_,rfl,Below.frame hbl _,fun h=>by cases h⟩
 have R7:DataW.Trod enc Tryz.prog W' 0 (fun b=>decide (b<W.heap.size)) true 25 (.agg #[.slice A f.classes.length a,.slice B f.methods.length b]) d0 p0 :=
  Below.trod nj (by kernel_rfl) (of_decide_eq_true (by kernel_rfl)) h0k hbl (fun x hx=>hlt x (List.mem_append_left _ hx))
 have R8:DataW.Trod enc Tryz.prog W' 0 (fun b=>decide (b<W.heap.size)) true 26 (.slice A2 Nt.length c2) d2 p2 :=
  Below.trod nj (by kernel_rfl) (of_decide_eq_true (by kernel_rfl)) h2k hbl (fun x hx=>hlt x (List.mem_append_right _ (List.mem_append_left _ hx)))
 have R9:DataW.Trod enc Tryz.prog W' 0 (fun b=>decide (b<W.heap.size)) true 26 (.slice A3 JD.length c3) d3 p3 :=
  Below.trod nj (by kernel_rfl) (of_decide_eq_true (by kernel_rfl)) h3k hbl (fun x hx=>hlt x (List.mem_append_right _ (List.mem_append_right _ hx)))
 have Sa:=trodAll_cons_mk R7 (trodAll_cons_mk (shut_int Tryz.underlying3 w1) (trodAll_cons_mk R8 (trodAll_cons_mk R9 (trodAll_cons_mk (shut_int Tryz.underlying3 w4) trodAll_mk0))))
 simp only [List.append_nil,List.nil_append] at Sa
 exact Sa
theorem MB:Rows.rrunRunsRow.holds Tryz.pinned (OpenSpec.ofChange Rows.rrunRunsSpec) :=
 OpenClaim.holds_of_wide 6 Tryz.f6 rfl rfl rfl rfl rfl rfl rfl ⟨rfl,rfl,rfl,rfl,rfl⟩ rfl rfl rfl rfl rfl (by kernel_rfl) Tryz.func6 (by kernel_rfl)
  (of_decide_eq_true (by kernel_rfl)) (by unfold Func.isWrapper;first|(rw [if_pos (by decide +kernel)];kernel_rfl)|(rw [if_neg (by decide +kernel)];exact ⟨rfl,rfl⟩))
  (fun os started H enc _=>EW os started H enc)
theorem rrunRuns_holds:Rows.RrunRunsSaid :=
 MB
end
#print axioms rrunRuns_holds
end Go.Proofs.YtgiiapenmjollaaGreat
