import Derived.Test.YtgiiapenmjollabGreatRlbg
import Derived.Deep.RegionHeld3
namespace Go.Proofs.YtgiiapenmjollabGreat
set_option linter.all false
set_option maxHeartbeats 40000000
set_option maxRecDepth 100000
open Go.RowKit
theorem preg_7 (cs:List Cl) (ms:List Me) (A B:Option Addr) (x y:Nat) (m:Me) (P C K:Option Addr) (p c k:Nat) (a b d n:Int) (args:List Int) (Q:Option Addr) (q:Nat) (w:World) (h1:1≤m.regs) (h2:m.regs≤90) (hi:(In.mk 7 a b d n args).ok) :
  Calls Tryz.prog 195 #[rmV m P C K p c k cs.length ms.length A B x y,riV ⟨7,a,b,d,n,args⟩ Q q] w fun e w'=>e=.returned (.bool (pregB cs ms m.regs m.ret.kind ⟨7,a,b,d,n,args⟩))∧Bl w w':=by
 obtain ⟨-,ia,ib,id,-⟩:=hi
 dsimp only at ia ib id
 have HIA:=hidp ia
 have HIB:=hidp ib
 have HID:=hidp id
 clear ia ib id
 have HAL:Hid (Bl w (rmiW w m P C K p c k cs.length ms.length A B x y ⟨7,a,b,d,n,args⟩ Q q)):=((Bl.refl _).alloc _).alloc _
 have HM:=hidp (rmi_m w m P C K p c k cs.length ms.length A B x y ⟨7,a,b,d,n,args⟩ Q q)
 have HI:=hidp (rmi_i w m P C K p c k cs.length ms.length A B x y ⟨7,a,b,d,n,args⟩ Q q)
 have hb:pregB cs ms m.regs m.ret.kind ⟨7,a,b,d,n,args⟩=(phldB m.regs 2 [a]&&phldB m.regs 1 [b]):=rfl
 rw [hb]
 obtain ⟨R,hR⟩:∃R,phldB m.regs 2 [a]=R:=⟨_,rfl⟩
 obtain ⟨S,hS⟩:∃S,phldB m.regs 1 [b]=S:=⟨_,rfl⟩
 rw [hR,hS]
 clear hb
 cases R
 ·rw [Bool.false_and]
  go_enter Tryz.func195,Tryz.ntmps195
  go_wp2_with (go_at_call 252;refine (fholds_any m _ _ _ _ _ _ _ _ _ _ _ _ _ _ _ [a] _ h1 h2 (ints_one (by simp [World.size_alloc]) HIA.out)).mono ?_;rintro e w1 ⟨he,g1⟩;rw [hR] at he;subst he)
  go_ret
  exact ⟨rfl,(HAL.out.alloc _).trans g1⟩
 ·rw [Bool.true_and]
  go_enter Tryz.func195,Tryz.ntmps195
  go_wp2_with (first
   | (have:=g1;(go_at_call 252;refine (fholds_any m _ _ _ _ _ _ _ _ _ _ _ _ _ _ _ [b] _ h1 h2 (ints_one (by simp [World.size_alloc]) HIB.out)).mono ?_;rintro e w2 ⟨he,g2⟩;rw [hS] at he;subst he))
   | (go_at_call 252;refine (fholds_any m _ _ _ _ _ _ _ _ _ _ _ _ _ _ _ [a] _ h1 h2 (ints_one (by simp [World.size_alloc]) HIA.out)).mono ?_;rintro e w1 ⟨he,g1⟩;rw [hR] at he;subst he;obtain ⟨e0,e1,e2,e3,e4,e5,e6,e7,e8,e9⟩:=HM.out.bl (((Bl.refl _).alloc _).trans g1);obtain ⟨f0,f1,f2,f3,f4,f5⟩:=HI.out.bl (((Bl.refl _).alloc _).trans g1);dsimp only at f0 f1 f2 f3 f4 f5))
  go_ret
  exact ⟨rfl,(((HAL.out.alloc _).trans g1).alloc _).trans g2⟩
theorem preg_8 (cs:List Cl) (ms:List Me) (A B:Option Addr) (x y:Nat) (m:Me) (P C K:Option Addr) (p c k:Nat) (a b d n:Int) (args:List Int) (Q:Option Addr) (q:Nat) (w:World) (h1:1≤m.regs) (h2:m.regs≤90) (hi:(In.mk 8 a b d n args).ok) :
  Calls Tryz.prog 195 #[rmV m P C K p c k cs.length ms.length A B x y,riV ⟨8,a,b,d,n,args⟩ Q q] w fun e w'=>e=.returned (.bool (pregB cs ms m.regs m.ret.kind ⟨8,a,b,d,n,args⟩))∧Bl w w':=by
 obtain ⟨-,ia,ib,id,-⟩:=hi
 dsimp only at ia ib id
 have HIA:=hidp ia
 have HIB:=hidp ib
 have HID:=hidp id
 clear ia ib id
 have HAL:Hid (Bl w (rmiW w m P C K p c k cs.length ms.length A B x y ⟨8,a,b,d,n,args⟩ Q q)):=((Bl.refl _).alloc _).alloc _
 have HM:=hidp (rmi_m w m P C K p c k cs.length ms.length A B x y ⟨8,a,b,d,n,args⟩ Q q)
 have HI:=hidp (rmi_i w m P C K p c k cs.length ms.length A B x y ⟨8,a,b,d,n,args⟩ Q q)
 have hb:pregB cs ms m.regs m.ret.kind ⟨8,a,b,d,n,args⟩=(phldB m.regs 1 [a]&&phldB m.regs 2 [b]):=rfl
 rw [hb]
 obtain ⟨R,hR⟩:∃R,phldB m.regs 1 [a]=R:=⟨_,rfl⟩
 obtain ⟨S,hS⟩:∃S,phldB m.regs 2 [b]=S:=⟨_,rfl⟩
 rw [hR,hS]
 clear hb
 cases R
 ·rw [Bool.false_and]
  go_enter Tryz.func195,Tryz.ntmps195
  go_wp2_with (go_at_call 252;refine (fholds_any m _ _ _ _ _ _ _ _ _ _ _ _ _ _ _ [a] _ h1 h2 (ints_one (by simp [World.size_alloc]) HIA.out)).mono ?_;rintro e w1 ⟨he,g1⟩;rw [hR] at he;subst he)
  go_ret
  exact ⟨rfl,(HAL.out.alloc _).trans g1⟩
 ·rw [Bool.true_and]
  go_enter Tryz.func195,Tryz.ntmps195
  go_wp2_with (first
   | (have:=g1;(go_at_call 252;refine (fholds_any m _ _ _ _ _ _ _ _ _ _ _ _ _ _ _ [b] _ h1 h2 (ints_one (by simp [World.size_alloc]) HIB.out)).mono ?_;rintro e w2 ⟨he,g2⟩;rw [hS] at he;subst he))
   | (go_at_call 252;refine (fholds_any m _ _ _ _ _ _ _ _ _ _ _ _ _ _ _ [a] _ h1 h2 (ints_one (by simp [World.size_alloc]) HIA.out)).mono ?_;rintro e w1 ⟨he,g1⟩;rw [hR] at he;subst he;obtain ⟨e0,e1,e2,e3,e4,e5,e6,e7,e8,e9⟩:=HM.out.bl (((Bl.refl _).alloc _).trans g1);obtain ⟨f0,f1,f2,f3,f4,f5⟩:=HI.out.bl (((Bl.refl _).alloc _).trans g1);dsimp only at f0 f1 f2 f3 f4 f5))
  go_ret
  exact ⟨rfl,(((HAL.out.alloc _).trans g1).alloc _).trans g2⟩
theorem preg_9 (cs:List Cl) (ms:List Me) (A B:Option Addr) (x y:Nat) (m:Me) (P C K:Option Addr) (p c k:Nat) (a b d n:Int) (args:List Int) (Q:Option Addr) (q:Nat) (w:World) (h1:1≤m.regs) (h2:m.regs≤90) (hi:(In.mk 9 a b d n args).ok) :
  Calls Tryz.prog 195 #[rmV m P C K p c k cs.length ms.length A B x y,riV ⟨9,a,b,d,n,args⟩ Q q] w fun e w'=>e=.returned (.bool (pregB cs ms m.regs m.ret.kind ⟨9,a,b,d,n,args⟩))∧Bl w w':=by
 obtain ⟨-,ia,ib,id,-⟩:=hi
 dsimp only at ia ib id
 have HIA:=hidp ia
 have HIB:=hidp ib
 have HID:=hidp id
 clear ia ib id
 have HAL:Hid (Bl w (rmiW w m P C K p c k cs.length ms.length A B x y ⟨9,a,b,d,n,args⟩ Q q)):=((Bl.refl _).alloc _).alloc _
 have HM:=hidp (rmi_m w m P C K p c k cs.length ms.length A B x y ⟨9,a,b,d,n,args⟩ Q q)
 have HI:=hidp (rmi_i w m P C K p c k cs.length ms.length A B x y ⟨9,a,b,d,n,args⟩ Q q)
 have hb:pregB cs ms m.regs m.ret.kind ⟨9,a,b,d,n,args⟩=(phldB m.regs 1 [a]&&phldB m.regs 2 [b,d]):=rfl
 rw [hb]
 obtain ⟨R,hR⟩:∃R,phldB m.regs 1 [a]=R:=⟨_,rfl⟩
 obtain ⟨S,hS⟩:∃S,phldB m.regs 2 [b,d]=S:=⟨_,rfl⟩
 rw [hR,hS]
 clear hb
 cases R
 ·rw [Bool.false_and]
  go_enter Tryz.func195,Tryz.ntmps195
  go_wp2_with (go_at_call 252;refine (fholds_any m _ _ _ _ _ _ _ _ _ _ _ _ _ _ _ [a] _ h1 h2 (ints_one (by simp [World.size_alloc]) HIA.out)).mono ?_;rintro e w1 ⟨he,g1⟩;rw [hR] at he;subst he)
  go_ret
  exact ⟨rfl,(HAL.out.alloc _).trans g1⟩
 ·rw [Bool.true_and]
  go_enter Tryz.func195,Tryz.ntmps195
  go_wp2_with (first
   | (have:=g1;(go_at_call 252;refine (fholds_any m _ _ _ _ _ _ _ _ _ _ _ _ _ _ _ [b,d] _ h1 h2 (ints_two (by simp [World.size_alloc]) HIB.out HID.out)).mono ?_;rintro e w2 ⟨he,g2⟩;rw [hS] at he;subst he))
   | (go_at_call 252;refine (fholds_any m _ _ _ _ _ _ _ _ _ _ _ _ _ _ _ [a] _ h1 h2 (ints_one (by simp [World.size_alloc]) HIA.out)).mono ?_;rintro e w1 ⟨he,g1⟩;rw [hR] at he;subst he;obtain ⟨e0,e1,e2,e3,e4,e5,e6,e7,e8,e9⟩:=HM.out.bl (((Bl.refl _).alloc _).trans g1);obtain ⟨f0,f1,f2,f3,f4,f5⟩:=HI.out.bl (((Bl.refl _).alloc _).trans g1);dsimp only at f0 f1 f2 f3 f4 f5))
  go_ret
  exact ⟨rfl,(((HAL.out.alloc _).trans g1).alloc _).trans g2⟩
theorem skipH {P:Program} {md:Region.Mode} {ops:Array Oper} {Q:Exit→Act→World→Prop} {S:World→Prop} {i:Nat} {oi:Oper} {d:Option Tmp} {fuel:Nat} {listed:Array Bool} {a:Act} {w:World} (hi:ops[i]?=some oi) (hd:oi.dst=d)
  (hs:Region.noSelect ops=true) (hf:Region.free md ops listed i=true) (hr:(Region.ready md ops listed).contains i=true)
  (hQ:∀c a w,Q (.panic c) (a.put oi.dst undef) w→Q (.panic c) a w) (hw:Region.wanted oi (yielded ops a.tmps)=false) (hS:S w)
  (h:wpAnyH P md ops Q S fuel (listed.setIfInBounds i true) (a.put d undef) w):wpAnyH P md ops Q S (fuel+1) listed a w :=
 wpAnyH_take hi hs hf hr hQ (Or.inr ⟨hw,rfl⟩) hS (hd▸h)
theorem bl_dr {w w':World} (h:Bl w w'):Bl w w'.drew:=h.drew
theorem pargs_bad {ms:List Me} {regs:Int} {i:In} {j:Nat} (hj:j<i.args.length) (h:phldB regs (nth ty0 (nth me0 ms i.a.toNat).params j).kind [nth (0:Int) i.args j]=false):pargsB ms regs i=false:=by
 unfold pargsB
 have:(List.range i.args.length).all (fun k=>phldB regs (nth ty0 (nth me0 ms i.a.toNat).params k).kind [nth (0:Int) i.args k])=false:=by
  rw [List.all_eq_false];exact ⟨j,List.mem_range.2 hj,by rw [h];decide⟩
 rw [this,Bool.and_false]
theorem pargs_good {ms:List Me} {regs:Int} {i:In} (h0:0≤i.a∧i.a<ms.length∧i.args.length=(nth me0 ms i.a.toNat).params.length) (h:∀j,j<i.args.length→phldB regs (nth ty0 (nth me0 ms i.a.toNat).params j).kind [nth (0:Int) i.args j]=true):pargsB ms regs i=true:=by
 unfold pargsB
 rw [decide_eq_true h0,Bool.true_and,List.all_eq_true]
 exact fun j hj=>h j (List.mem_range.1 hj)
theorem pargs_any (m:Me) (P C K:Option Addr) (p c k:Nat) (nc:Nat) (ms:List Me) (A B:Option Addr) (x y:Nat) (i:In) (Q:Option Addr) (q:Nat) (w:World) (h1:1≤m.regs) (h2:m.regs≤90) (hB:MesAt w B ms) (hQ:IntsAt w Q i.args) :
  Calls Tryz.prog 254 #[rmV m P C K p c k nc ms.length A B x y,riV i Q q] w fun e w'=>e=.returned (.bool (pargsB ms m.regs i))∧Bl w w':=by
 have HAL:Hid (Bl w (rmiW w m P C K p c k nc ms.length A B x y i Q q)):=((Bl.refl _).alloc _).alloc _
 have HM:=hidp (rmi_m w m P C K p c k nc ms.length A B x y i Q q)
 have HI:=hidp (rmi_i w m P C K p c k nc ms.length A B x y i Q q)
 have HB:Hid (MesAt w B ms):=hB
 have HQ:Hid (IntsAt w Q i.args):=hQ
 have hmm:=hB.1
 have hqm:=hQ.1
 unfold maxLen at hmm hqm
 clear hB hQ
 by_cases ha:0≤i.a∧i.a<ms.length
 ·have da:decide (0≤i.a∧i.a<(ms.length:Int))=true:=decide_eq_true ha
  obtain ⟨n,hn⟩:∃n:Nat,i.a=n:=⟨i.a.toNat,by omega⟩
  rcases (HB.out.bl HAL.out).2 with h0|⟨mb,mo,hBe,hc⟩
  ·omega
  obtain ⟨P',C',K',p',c',k',c0,-,-,-,-,-,-,-,hme⟩:=hc n (by omega)
  have HP:Hid (TysAt (rmiW w m P C K p c k nc ms.length A B x y i Q q) P' (nth me0 ms n).params):=hme.1
  have hpm:=hme.1.1
  unfold maxLen at hpm
  have hnn:i.a.toNat=n:=by omega
  have HBAD:Hid (∀j,j<i.args.length→phldB m.regs (nth ty0 (nth me0 ms n).params j).kind [nth (0:Int) i.args j]=false→pargsB ms m.regs i=false):=fun j hj hf=>pargs_bad hj (by rw [hnn];exact hf)
  have HGOOD:Hid (i.args.length=(nth me0 ms n).params.length→(∀j,j<i.args.length→phldB m.regs (nth ty0 (nth me0 ms n).params j).kind [nth (0:Int) i.args j]=true)→pargsB ms m.regs i=true):=fun he hf=>pargs_good ⟨ha.1,ha.2,by rw [hnn];exact he⟩ (by rw [hnn];exact hf)
  have HLEN:Hid (i.args.length≠(nth me0 ms n).params.length→pargsB ms m.regs i=false):=fun he=>by
   unfold pargsB;rw [decide_eq_false (by rw [hnn];exact fun h=>he h.2.2),Bool.false_and]
  obtain ⟨RR,hRR⟩:∃RR,pargsB ms m.regs i=RR:=⟨_,rfl⟩
  rw [hRR] at HBAD HGOOD HLEN ⊢
  generalize hPL:(nth me0 ms n).params=PL at *
  clear hRR hc hme hPL
  by_cases hl:i.args.length=PL.length
  ·have dl:((i.args.length:Int) !=(PL.length:Int))=false:=by simp [hl]
   have HL:Hid (i.args.length=PL.length):=hl
   have HG:=hidp (HGOOD.out hl)
   clear HGOOD HLEN hl hqm
   subst hBe
   obtain ⟨op,ia,ib,ic,iN,args⟩:=i
   dsimp only at *
   subst hn
   go_enter Tryz.func254,Tryz.ntmps254
   go_wp2_with (go_at_call 144;refine (numbers_any _ _ _).mono ?_;rintro e w0 ⟨he,hw0⟩;rw [da] at he;subst he;rw [hw0];clear hw0 w0)
   go_loopw [32] (fun j wr=>∃jj:Nat,jj≤PL.length∧j=.int .i64 jj∧Hid (∀u,u<jj→phldB m.regs (nth ty0 PL u).kind [nth (0:Int) args u]=true)∧Hid (Bl w wr)∧Hid (TysAt wr P' PL)∧Hid (RmC wr w.heap.size m P C K p c k nc ms.length A (some ⟨mb,mo,none⟩) x y)∧Hid (RiC wr (w.heap.size+1) ⟨op,n,ib,ic,iN,args⟩ Q q)) (fun j _=>PL.length-(intOf j).toNat)
   case atStart=>exact ⟨0,Nat.zero_le _,rfl,fun j hj=>absurd hj (Nat.not_lt_zero _),HAL.out,HP.out,HM.out,HI.out⟩
   case round =>
    clear HAL HM HI HP c0
    obtain ⟨j,hj,rfl,hgq,hg,HP,HM,HI⟩:=hrel
    by_cases hjl:j<PL.length
    ·rcases HP.out.2 with h0|⟨tb,to,rfl,hcell⟩
     ·omega
     obtain ⟨t0,t1,-,-⟩:=hcell j hjl
     have hjq:j<args.length:=by rw [HL.out];exact hjl
     rcases (HQ.out.bl hg.out).2 with h0|⟨qb,qo,rfl,hqc⟩
     ·omega
     have hqc':=hqc j hjq
     have HBJ:Hid (phldB m.regs (nth ty0 PL j).kind [nth (0:Int) args j]=false→RR=false):=HBAD.out j hjq
     generalize ht:nth ty0 PL j=t at *
     generalize hX:nth (0:Int) args j=X at *
     have HTX:Hid (nth ty0 PL j=t∧nth (0:Int) args j=X):=⟨ht,hX⟩
     have HXI:=hidp hqc'.2
     have HT:Hid (∀w',Bl (wr.alloc (.cells #[.int .i64 t.kind,.int .i64 t.cls] 46)) w'→(fun w'=>Hid (Bl (wr.alloc (.cells #[.int .i64 t.kind,.int .i64 t.cls] 46)) w')∧w'.cell? ⟨w.heap.size,0,none⟩=some (.slice P m.params.length p)∧w'.cell? ⟨w.heap.size,1,none⟩=some (.int .i64 m.ret.kind)∧w'.cell? ⟨w.heap.size,2,none⟩=some (.int .i64 m.ret.cls)∧w'.cell? ⟨w.heap.size,3,none⟩=some (.int .i64 m.stack)∧w'.cell? ⟨w.heap.size,4,none⟩=some (.int .i64 m.locs)∧w'.cell? ⟨w.heap.size,5,none⟩=some (.int .i64 m.regs)∧w'.cell? ⟨w.heap.size,6,none⟩=some (.slice C m.code.length c)∧w'.cell? ⟨w.heap.size,7,none⟩=some (.slice K m.hands.length k)∧w'.cell? ⟨w.heap.size,8,none⟩=some (.slice A nc x)∧w'.cell? ⟨w.heap.size,9,none⟩=some (.slice (some ⟨mb,mo,none⟩) ms.length y)∧w'.cell? ⟨w.heap.size+1,5,none⟩=some (.slice (some ⟨qb,qo,none⟩) args.length q)∧w'.cell? ⟨wr.heap.size,0,none⟩=some (.int .i64 t.kind)∧w'.cell? ⟨qb,qo+j,none⟩=some (.int .i64 X)) w'):=fun w' hb=>by
      have hb':Bl wr w':=((Bl.refl wr).alloc _).trans hb
      have hm:=HM.out.bl hb'
      have hi:=HI.out.bl hb'
      exact ⟨hb,hm.m0,hm.m1,hm.m2,hm.m3,hm.m4,hm.m5,hm.m6,hm.m7,hm.m8,hm.m9,hi.i5,hb.cell (cell_of_new rfl),hb'.cell hqc'.1⟩
     clear hcell hqc hqc' ht hX HBAD
     obtain ⟨T,hT⟩:∃T,phldB m.regs t.kind [X]=T:=⟨_,rfl⟩
     cases T
     ·have HF:=HBJ.out hT
      clear HG HBJ
      go_wp2
      refine wp_region_held_drew (S:=fun w'=>Hid (Bl (wr.alloc (.cells #[.int .i64 t.kind,.int .i64 t.cls] 46)) w')∧w'.cell? ⟨w.heap.size,0,none⟩=some (.slice P m.params.length p)∧w'.cell? ⟨w.heap.size,1,none⟩=some (.int .i64 m.ret.kind)∧w'.cell? ⟨w.heap.size,2,none⟩=some (.int .i64 m.ret.cls)∧w'.cell? ⟨w.heap.size,3,none⟩=some (.int .i64 m.stack)∧w'.cell? ⟨w.heap.size,4,none⟩=some (.int .i64 m.locs)∧w'.cell? ⟨w.heap.size,5,none⟩=some (.int .i64 m.regs)∧w'.cell? ⟨w.heap.size,6,none⟩=some (.slice C m.code.length c)∧w'.cell? ⟨w.heap.size,7,none⟩=some (.slice K m.hands.length k)∧w'.cell? ⟨w.heap.size,8,none⟩=some (.slice A nc x)∧w'.cell? ⟨w.heap.size,9,none⟩=some (.slice (some ⟨mb,mo,none⟩) ms.length y)∧w'.cell? ⟨w.heap.size+1,5,none⟩=some (.slice (some ⟨qb,qo,none⟩) args.length q)∧w'.cell? ⟨wr.heap.size,0,none⟩=some (.int .i64 t.kind)∧w'.cell? ⟨qb,qo+j,none⟩=some (.int .i64 X)) (by kernel_rfl) ?_ (fun hHeld0=>?_)
      ·exact HT.out _ (bl_dr (Bl.refl _))
      refine tk (i:=0) (d:=some 37) rfl rfl (by kernel_rfl) (fun _ _ _ h=>h) (by rfl) (by intro _ h;(try dsimp only at h);go_split_ands;go_simp<;>with_reducible rfl) hHeld0 ?_
      try simp only [aS,aN,aT,a0,a1]
      refine tk (i:=1) (d:=some 38) rfl rfl (by kernel_rfl) (fun _ _ _ h=>h) (by rfl) (by intro _ h;(try dsimp only at h);go_split_ands;go_simp<;>with_reducible rfl) hHeld0 ?_
      try simp only [aS,aN,aT,a0,a1]
      refine tk (i:=2) (d:=some 39) rfl rfl (by kernel_rfl) (fun _ _ _ h=>h) (by rfl) (by intro _ h;(try dsimp only at h);go_split_ands;go_simp<;>with_reducible rfl) hHeld0 ?_
      try simp only [aS,aN,aT,a0,a1]
      refine tk (i:=3) (d:=some 40) rfl rfl (by kernel_rfl) (fun _ _ _ h=>h) (by rfl) (by intro _ h;(try dsimp only at h);go_split_ands;go_simp<;>with_reducible rfl) hHeld0 ?_
      try simp only [aS,aN,aT,a0,a1]
      refine tk (i:=4) (d:=some 41) rfl rfl (by kernel_rfl) (fun _ _ _ h=>h) (by rfl) (by intro _ h;(try dsimp only at h);go_split_ands;go_simp<;>with_reducible rfl) hHeld0 ?_
      try simp only [aS,aN,aT,a0,a1]
      refine tk (i:=5) (d:=some 42) rfl rfl (by kernel_rfl) (fun _ _ _ h=>h) (by rfl) (by intro _ h;(try dsimp only at h);go_split_ands;go_simp<;>with_reducible rfl) hHeld0 ?_
      try simp only [aS,aN,aT,a0,a1]
      refine tk (i:=6) (d:=some 43) rfl rfl (by kernel_rfl) (fun _ _ _ h=>h) (by rfl) (by intro _ h;(try dsimp only at h);go_split_ands;go_simp<;>with_reducible rfl) hHeld0 ?_
      try simp only [aS,aN,aT,a0,a1]
      refine tk (i:=7) (d:=some 44) rfl rfl (by kernel_rfl) (fun _ _ _ h=>h) (by rfl) (by intro _ h;(try dsimp only at h);go_split_ands;go_simp<;>with_reducible rfl) hHeld0 ?_
      try simp only [aS,aN,aT,a0,a1]
      refine rd1 (i:=8) (by kernel_rfl) rfl fun K hK=>?_
      go_wp2_with fail
      refine hK.out _ _ (HT.out _ (hHeld0.1.out.alloc _)) (fun hHeld1=>?_)
      try simp only [aS,aN,aT,a0,a1]
      refine rd1 (i:=9) (by kernel_rfl) rfl fun K hK=>?_
      go_simp
      go_at_call 252
      refine (fholds_any m _ _ _ _ _ _ _ _ _ _ _ _ _ _ _ [X] _ h1 h2 (IntsAt.bl (bl_dr (Bl.refl _)) (ints_one (by simp [World.size_alloc]) HXI.out))).mono ?_
      rintro e w1 ⟨he,g1⟩
      rw [hT] at he
      subst he
      go_wp2_with fail
      refine hK.out _ _ (HT.out _ (hHeld1.1.out.trans g1)) (fun hHeld2=>?_)
      try simp only [aS,aN,aT,a0,a1]
      refine tk (i:=10) (d:=some 47) rfl rfl (by kernel_rfl) (fun _ _ _ h=>h) (by rfl) (by intro _ h;(try dsimp only at h);go_split_ands;go_simp<;>with_reducible rfl) hHeld2 ?_
      try simp only [aS,aN,aT,a0,a1]
      refine wpAnyH_done (by kernel_rfl) ?_ _
      go_wp2
      go_ret
      exact ⟨ret_bool HF.symm,(hg.out.alloc _).trans hHeld2.1.out⟩
     ·have HT1:Hid (phldB m.regs t.kind [X]=true):=hT
      clear HG HBJ
      go_wp2
      refine wp_region_held_drew (S:=fun w'=>Hid (Bl (wr.alloc (.cells #[.int .i64 t.kind,.int .i64 t.cls] 46)) w')∧w'.cell? ⟨w.heap.size,0,none⟩=some (.slice P m.params.length p)∧w'.cell? ⟨w.heap.size,1,none⟩=some (.int .i64 m.ret.kind)∧w'.cell? ⟨w.heap.size,2,none⟩=some (.int .i64 m.ret.cls)∧w'.cell? ⟨w.heap.size,3,none⟩=some (.int .i64 m.stack)∧w'.cell? ⟨w.heap.size,4,none⟩=some (.int .i64 m.locs)∧w'.cell? ⟨w.heap.size,5,none⟩=some (.int .i64 m.regs)∧w'.cell? ⟨w.heap.size,6,none⟩=some (.slice C m.code.length c)∧w'.cell? ⟨w.heap.size,7,none⟩=some (.slice K m.hands.length k)∧w'.cell? ⟨w.heap.size,8,none⟩=some (.slice A nc x)∧w'.cell? ⟨w.heap.size,9,none⟩=some (.slice (some ⟨mb,mo,none⟩) ms.length y)∧w'.cell? ⟨w.heap.size+1,5,none⟩=some (.slice (some ⟨qb,qo,none⟩) args.length q)∧w'.cell? ⟨wr.heap.size,0,none⟩=some (.int .i64 t.kind)∧w'.cell? ⟨qb,qo+j,none⟩=some (.int .i64 X)) (by kernel_rfl) ?_ (fun hHeld0=>?_)
      ·exact HT.out _ (bl_dr (Bl.refl _))
      refine tk (i:=0) (d:=some 37) rfl rfl (by kernel_rfl) (fun _ _ _ h=>h) (by rfl) (by intro _ h;(try dsimp only at h);go_split_ands;go_simp<;>with_reducible rfl) hHeld0 ?_
      try simp only [aS,aN,aT,a0,a1]
      refine tk (i:=1) (d:=some 38) rfl rfl (by kernel_rfl) (fun _ _ _ h=>h) (by rfl) (by intro _ h;(try dsimp only at h);go_split_ands;go_simp<;>with_reducible rfl) hHeld0 ?_
      try simp only [aS,aN,aT,a0,a1]
      refine tk (i:=2) (d:=some 39) rfl rfl (by kernel_rfl) (fun _ _ _ h=>h) (by rfl) (by intro _ h;(try dsimp only at h);go_split_ands;go_simp<;>with_reducible rfl) hHeld0 ?_
      try simp only [aS,aN,aT,a0,a1]
      refine tk (i:=3) (d:=some 40) rfl rfl (by kernel_rfl) (fun _ _ _ h=>h) (by rfl) (by intro _ h;(try dsimp only at h);go_split_ands;go_simp<;>with_reducible rfl) hHeld0 ?_
      try simp only [aS,aN,aT,a0,a1]
      refine tk (i:=4) (d:=some 41) rfl rfl (by kernel_rfl) (fun _ _ _ h=>h) (by rfl) (by intro _ h;(try dsimp only at h);go_split_ands;go_simp<;>with_reducible rfl) hHeld0 ?_
      try simp only [aS,aN,aT,a0,a1]
      refine tk (i:=5) (d:=some 42) rfl rfl (by kernel_rfl) (fun _ _ _ h=>h) (by rfl) (by intro _ h;(try dsimp only at h);go_split_ands;go_simp<;>with_reducible rfl) hHeld0 ?_
      try simp only [aS,aN,aT,a0,a1]
      refine tk (i:=6) (d:=some 43) rfl rfl (by kernel_rfl) (fun _ _ _ h=>h) (by rfl) (by intro _ h;(try dsimp only at h);go_split_ands;go_simp<;>with_reducible rfl) hHeld0 ?_
      try simp only [aS,aN,aT,a0,a1]
      refine tk (i:=7) (d:=some 44) rfl rfl (by kernel_rfl) (fun _ _ _ h=>h) (by rfl) (by intro _ h;(try dsimp only at h);go_split_ands;go_simp<;>with_reducible rfl) hHeld0 ?_
      try simp only [aS,aN,aT,a0,a1]
      refine rd1 (i:=8) (by kernel_rfl) rfl fun K hK=>?_
      go_wp2_with fail
      refine hK.out _ _ (HT.out _ (hHeld0.1.out.alloc _)) (fun hHeld1=>?_)
      try simp only [aS,aN,aT,a0,a1]
      refine rd1 (i:=9) (by kernel_rfl) rfl fun K hK=>?_
      go_simp
      go_at_call 252
      refine (fholds_any m _ _ _ _ _ _ _ _ _ _ _ _ _ _ _ [X] _ h1 h2 (IntsAt.bl (bl_dr (Bl.refl _)) (ints_one (by simp [World.size_alloc]) HXI.out))).mono ?_
      rintro e w1 ⟨he,g1⟩
      rw [hT] at he
      subst he
      go_wp2_with fail
      refine hK.out _ _ (HT.out _ (hHeld1.1.out.trans g1)) (fun hHeld2=>?_)
      try simp only [aS,aN,aT,a0,a1]
      refine tk (i:=10) (d:=some 47) rfl rfl (by kernel_rfl) (fun _ _ _ h=>h) (by rfl) (by intro _ h;(try dsimp only at h);go_split_ands;go_simp<;>with_reducible rfl) hHeld2 ?_
      try simp only [aS,aN,aT,a0,a1]
      refine wpAnyH_done (by kernel_rfl) ?_ _
      go_wp2
      go_roundw
      case rel=>exact ⟨j+1,by omega,by go_num,fun u hu=>if h:u<j then hgq.out u h else by have:u=j:=(by omega);subst this;rw [HTX.out.1,HTX.out.2];exact HT1.out,(hg.out.alloc _).trans hHeld2.1.out,HP.out.bl (((Bl.refl wr).alloc _).trans hHeld2.1.out),HM.out.bl (((Bl.refl wr).alloc _).trans hHeld2.1.out),HI.out.bl (((Bl.refl wr).alloc _).trans hHeld2.1.out)⟩
      case measure=>simp [intOf];omega
    ·have hkk:j=PL.length:=by omega
     subst hkk
     have HF:=HG.out (by rw [HL.out];exact hgq.out)
     clear HG
     go_wp2
     go_ret
     exact ⟨ret_bool HF.symm,hg.out⟩
  ·have dl:((i.args.length:Int) !=(PL.length:Int))=true:=by simpa using fun h=>hl (by omega)
   have HF:=HLEN.out hl
   clear HGOOD HLEN HBAD hl
   subst hBe
   obtain ⟨op,ia,ib,ic,iN,args⟩:=i
   dsimp only at *
   subst hn
   go_enter Tryz.func254,Tryz.ntmps254
   go_wp2_with (go_at_call 144;refine (numbers_any _ _ _).mono ?_;rintro e w0 ⟨he,hw0⟩;rw [da] at he;subst he;rw [hw0];clear hw0 w0)
   go_ret
   exact ⟨ret_bool HF.symm,HAL.out⟩
 ·have da:decide (0≤i.a∧i.a<(ms.length:Int))=false:=decide_eq_false ha
  have hb:pargsB ms m.regs i=false:=by unfold pargsB;rw [decide_eq_false (fun h=>ha ⟨h.1,h.2.1⟩),Bool.false_and]
  rw [hb]
  clear hb
  go_enter Tryz.func254,Tryz.ntmps254
  go_wp2_with (go_at_call 144;refine (numbers_any _ _ _).mono ?_;rintro e w0 ⟨he,hw0⟩;rw [da] at he;subst he;rw [hw0];clear hw0 w0)
  go_ret
  exact ⟨rfl,HAL.out⟩
end Go.Proofs.YtgiiapenmjollabGreat
