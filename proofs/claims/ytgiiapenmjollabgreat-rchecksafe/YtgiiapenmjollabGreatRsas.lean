import Derived.Test.YtgiiapenmjollabGreatRsar
namespace Go.Proofs.YtgiiapenmjollabGreat
set_option linter.all false
set_option maxHeartbeats 40000000
set_option maxRecDepth 100000
open Go.RowKit
theorem fholds_any (m:Me) (P C K:Option Addr) (p c k nc nm:Nat) (A B:Option Addr) (x y:Nat) (kind:Int) (R:Option Addr) (r:Nat) (rs:List Int) (w:World) (h1:1≤m.regs) (h2:m.regs≤90) (hR:IntsAt w R rs) :
  Calls Tryz.prog 252 #[rmV m P C K p c k nc nm A B x y,.int .i64 kind,.slice R rs.length r] w fun e w'=>e=.returned (.bool (phldB m.regs kind rs))∧Bl w w':=by
 have HAL:Hid (Bl w (w.alloc (rmO m P C K p c k nc nm A B x y))):=(Bl.refl _).alloc _
 have H5:Hid ((w.alloc (rmO m P C K p c k nc nm A B x y)).cell? ⟨w.heap.size,5,none⟩=some (.int .i64 m.regs)):=cell_of_new rfl
 obtain ⟨hm,hR⟩:=hR
 unfold maxLen at hm
 by_cases hk:1≤kind∧kind≤3
 ·have dk:decide (1≤kind∧kind≤3)=true:=decide_eq_true hk
  have hw:=widI_bounds kind
  obtain ⟨W,hW⟩:∃W,widI kind=W:=⟨_,rfl⟩
  have hb:phldB m.regs kind rs=rs.all (fun r=>decide (0≤r∧r≤m.regs-W)):=by unfold phldB;rw [dk,hW];rfl
  rw [hb]
  rw [hW] at hw
  clear hb hk
  have HG:Hid ((∀q,q<rs.length→decide (0≤nth (0:Int) rs q∧nth (0:Int) rs q≤m.regs-W)=true)→rs.all (fun r=>decide (0≤r∧r≤m.regs-W))=true):=fun h=>all_good (d:=(0:Int)) h
  have HB:Hid (∀q,q<rs.length→decide (0≤nth (0:Int) rs q∧nth (0:Int) rs q≤m.regs-W)=false→rs.all (fun r=>decide (0≤r∧r≤m.regs-W))=false):=fun q hq hf=>all_bad (d:=(0:Int)) hq hf
  obtain ⟨RR,hRR⟩:∃RR,rs.all (fun r=>decide (0≤r∧r≤m.regs-W))=RR:=⟨_,rfl⟩
  rw [hRR] at HG HB ⊢
  clear hRR
  go_enter Tryz.func252,Tryz.ntmps252
  go_wp2_with (go_at_call 63;refine (span_any _ _ _ _).mono ?_;rintro e w0 ⟨he,hw0⟩;rw [dk] at he;subst he;rw [hw0];clear hw0 w0)
  go_loopw [14] (fun i wr=>∃q:Nat,q≤rs.length∧i=.int .i64 q∧Hid (∀j,j<q→decide (0≤nth (0:Int) rs j∧nth (0:Int) rs j≤m.regs-W)=true)∧Hid (Bl w wr)∧Hid (wr.cell? ⟨w.heap.size,5,none⟩=some (.int .i64 m.regs))) (fun i _=>rs.length-(intOf i).toNat)
  case atStart=>exact ⟨0,Nat.zero_le _,rfl,fun j hj=>absurd hj (Nat.not_lt_zero _),HAL.out,H5.out⟩
  case round =>
   clear HAL H5
   obtain ⟨q,hq,rfl,hgq,hg,h5⟩:=hrel
   by_cases hql:q<rs.length
   ·rcases hR with h0|⟨b,off,rfl,hcell⟩
    ·omega
    have g0:=hg.out.cell (hcell q hql).1
    have y5:=fut_cell h5.out
    have HN:Hid (decide (0≤nth (0:Int) rs q∧nth (0:Int) rs q≤m.regs-W)=false→RR=false):=HB.out q hql
    generalize hX:nth (0:Int) rs q=X at *
    have HX:Hid (nth (0:Int) rs q=X):=hX
    clear hcell HB hX
    obtain ⟨T,hT⟩:∃T,decide (0≤X∧X≤m.regs-W)=T:=⟨_,rfl⟩
    cases T
    ·have HF:=HN.out hT
     clear HN HG
     go_wp2
     refine wp_region_fut (by kernel_rfl) (by kernel_rfl) fun hne=>?_
     repeat (go_big_quiet_step (first
      | (go_at_call 133;exact Calls.fut_same_eq _ (width_any _ _) (congrArg (Value.int .i64) hW))
      | (go_at_call 63;exact Calls.fut_same_eq _ (span_any _ _ _ _) (congrArg Value.bool hT))))
     refine wpQuiet_nil ?_
     rintro _ ⟨⟨w2,hw2⟩,rfl⟩
     go_wp2
     go_ret
     exact ⟨ret_bool HF.symm,hg.out.trans hw2⟩
    ·have HT1:Hid (decide (0≤X∧X≤m.regs-W)=true):=hT
     clear HN HG
     go_wp2
     refine wp_region_fut (by kernel_rfl) (by kernel_rfl) fun hne=>?_
     repeat (go_big_quiet_step (first
      | (go_at_call 133;exact Calls.fut_same_eq _ (width_any _ _) (congrArg (Value.int .i64) hW))
      | (go_at_call 63;exact Calls.fut_same_eq _ (span_any _ _ _ _) (congrArg Value.bool hT))))
     refine wpQuiet_nil ?_
     rintro _ ⟨⟨w2,hw2⟩,rfl⟩
     go_wp2
     go_roundw
     case rel=>exact ⟨q+1,by omega,by go_num,fun j hj=>if h:j<q then hgq.out j h else by have:j=q:=(by omega);subst this;rw [HX.out];exact HT1.out,hg.out.trans hw2,hw2.cell h5.out⟩
     case measure=>simp [intOf];omega
   ·have hkk:q=rs.length:=by omega
    subst hkk
    have HF:=HG.out hgq.out
    clear HG
    go_wp2
    go_ret
    exact ⟨ret_bool HF.symm,hg.out⟩
 ·have dk:decide (1≤kind∧kind≤3)=false:=decide_eq_false hk
  rw [phld_bad _ _ _ hk]
  go_enter Tryz.func252,Tryz.ntmps252
  go_wp2_with (go_at_call 63;refine (span_any _ _ _ _).mono ?_;rintro e w0 ⟨he,hw0⟩;rw [dk] at he;subst he;rw [hw0];clear hw0 w0)
  go_ret
  exact ⟨rfl,HAL.out⟩
theorem pret_any (m:Me) (P C K:Option Addr) (p c k nc nm:Nat) (A B:Option Addr) (x y:Nat) (i:In) (Q:Option Addr) (q:Nat) (w:World) (h1:1≤m.regs) (h2:m.regs≤90) (hi:i.ok) :
  Calls Tryz.prog 255 #[rmV m P C K p c k nc nm A B x y,riV i Q q] w fun e w'=>e=.returned (.bool (pretB m.regs m.ret.kind i.a))∧Bl w w':=by
 have HAL:Hid (Bl w (rmiW w m P C K p c k nc nm A B x y i Q q)):=((Bl.refl _).alloc _).alloc _
 have HIA:=hidp hi.2.1
 clear hi
 by_cases h:m.ret.kind=0
 ·have hb:pretB m.regs m.ret.kind i.a=(i.a==0):=by unfold pretB;rw [if_pos h,Bool.eq_iff_iff];simp
  rw [hb]
  clear hb
  go_enter Tryz.func255,Tryz.ntmps255
  go_wp2
  all_goals
   go_ret
   exact ⟨ret_bool (by simp [*]),((Bl.refl _).alloc _).alloc _⟩
 ·have hb:pretB m.regs m.ret.kind i.a=phldB m.regs m.ret.kind [i.a]:=by unfold pretB;rw [if_neg h]
  rw [hb]
  clear hb
  obtain ⟨R,hR⟩:∃R,phldB m.regs m.ret.kind [i.a]=R:=⟨_,rfl⟩
  rw [hR]
  have h0:(m.ret.kind==0)=false:=by simpa using h
  clear h
  go_enter Tryz.func255,Tryz.ntmps255
  go_wp2_with (go_at_call 252;refine (fholds_any m _ _ _ _ _ _ _ _ _ _ _ _ _ _ _ [i.a] _ h1 h2 (ints_one (by simp [World.size_alloc]) HIA.out)).mono ?_;rintro e w1 ⟨he,g1⟩;rw [hR] at he;subst he)
  go_ret
  exact ⟨rfl,(HAL.out.alloc _).trans g1⟩
end Go.Proofs.YtgiiapenmjollabGreat
