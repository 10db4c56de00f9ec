import Derived.Test.YtgiiapenmjollaaSlal
import Derived.Test.YtgiiapenmjollaaChecked
import Derived.WalkKit
import Derived.RowKit3
import Derived.Below
import Derived.Handy
namespace Go.Proofs.Ytgiiapenmjollaa
set_option linter.all false
set_option maxHeartbeats 40000000
open Go.RowKit
theorem info_mvm:(Try.prog.info? 109).map (fun i=>(i.zero,i.size,i.bytes))=some (some (.agg #[.int .i64 0,.int .i64 0]),2,16):=by kernel_rfl
theorem rep_atM:∀(k j:Nat),j<k*2→(vaCells (List.replicate k va0))[j]?=some (.int .i64 0)
 | 0,j,h=>by omega
 | k+1,0,_=>by rw [List.replicate_succ];rfl
 | k+1,1,_=>by rw [List.replicate_succ];rfl
 | k+1,j+2,h=>by
  rw [List.replicate_succ]
  show (vaCells (List.replicate k va0))[j]?=_
  exact rep_atM k j (by omega)
theorem made_mv (k:Nat):madeCells #[.int .i64 0,.int .i64 0] (k*2)=(vaCells (List.replicate k va0)).toArray:=by
 apply Array.ext_getElem?
 intro j
 by_cases hj:j<k*2
 ·have h2:=rep_atM k j hj
  simp only [List.getElem?_toArray,h2]
  unfold madeCells
  have hm:j%2=0∨j%2=1:=by omega
  rcases hm with hm|hm<;>simp [hj,hm]
 ·rw [Array.getElem?_eq_none (by rw [size_madeCells];omega),Array.getElem?_eq_none (by simp [vaCells_length];omega)]
theorem make_mv (n:Nat) (hn:n≤1000000) (u:World):(Instr.makeSlice 89 (.int .i64 (n:Int)) (.int .i64 (n:Int))).run Try.prog u=.ok (.slice (some ⟨u.heap.size,0,none⟩) n n) (u.alloc (.cells (vaCells (List.replicate n va0)).toArray 109)):=by
 obtain ⟨i,hi,hz,hs,hb⟩:=info_parts info_mvm
 have h:=run_make u 89 109 i _ Try.underlying89 hi hz .i64 .i64 (n:Int) (n:Int) (by omega) (Int.le_refl _) (by rw [hb];omega) (by omega)
 rw [hs] at h
 simp only [Int.toNat_natCast] at h
 rw [←made_mv]
 exact h
theorem make_sl (n:Nat) (hn:n≤1000000) (u:World):(Instr.makeSlice 99 (.int .i64 (n:Int)) (.int .i64 (n:Int))).run Try.prog u=.ok (.slice (some ⟨u.heap.size,0,none⟩) n n) (u.alloc (.cells (vaCells (List.replicate n va0)).toArray 109)):=by
 obtain ⟨i,hi,hz,hs,hb⟩:=info_parts info_mvm
 have h:=run_make u 99 109 i _ Try.underlying99 hi hz .i64 .i64 (n:Int) (n:Int) (by omega) (Int.le_refl _) (by rw [hb];omega) (by omega)
 rw [hs] at h
 simp only [Int.toNat_natCast] at h
 rw [←made_mv]
 exact h
theorem LBox.new (w:World) (l:List Va):LBox (w.alloc (.cells (vaCells l).toArray 109)) w.heap.size l:=⟨blk_new _ _ _⟩
theorem rep_set (j:Nat) (u:Va) (L:List Va):(List.replicate (j+1) va0++L).set j u=List.replicate j va0++(u::L):=by
 rw [List.replicate_succ',List.append_assoc,List.set_append_right _ _ (by simp)]
 simp
def ofAll (h:Hp) (vs:List Va) (ts:List Ty):Prop:=∀k,k<ts.length→h.of (nth va0 vs k) (nth ty0 ts k)=true
def TTQ (s:Nat) (X:Nat→Prop) (wx w0:World) (g:Mg) (h:Hp) (qs:List Nat) (a:Mc) (c:Cal) (ts:List Ty) (b:Nat) (e:Ending) (w':World):Prop :=
 (∃l vs,c.stk=l++vs∧vs.length=ts.length∧ofAll h vs ts∧e=.returned (.slice (some ⟨b,0,none⟩) ts.length ts.length)∧RXY s X (fun x=>x=b) wx w0 g w' h qs a { c with stk:=l }∧LBox w' b (vs.map im))
 ∨ ((∀l vs,c.stk=l++vs→vs.length=ts.length→ofAll h vs ts→False)∧e=stopE 6 0 0∧RS s X wx w0 g w' h qs a c)
def TTR (s:Nat) (X:Nat→Prop) (wx w0:World) (g:Mg) (h:Hp) (qs:List Nat) (a:Mc) (c:Cal) (ts:List Ty) (b j:Nat) (wr:World):Prop :=
 ∃l vs,c.stk=l++vs∧vs.length=ts.length-j∧(∀k,k<ts.length-j→h.of (nth va0 vs k) (nth ty0 ts (j+k))=true)∧RXY s X (fun x=>x=b) wx w0 g wr h qs a { c with stk:=l }∧LBox wr b (List.replicate j va0++vs.map im)
theorem RXY.bl0 {s:Nat} {X Y:Nat→Prop} {wx w0 w:World} {g:Mg} {h:Hp} {qs:List Nat} {a:Mc} {c:Cal} (H:RXY s X Y wx w0 g w h qs a c):Bl w0 w:=by
 obtain ⟨vc,vo,vx,vs,l,H,-⟩:=H
 exact H.rh.bl
theorem suf_at {vs2 vs:List Va} {j:Nat} {v:Va} (h:vs2.drop j=v::vs):nth va0 vs2 j=v:=by
 have:=congrArg (fun l=>l[0]?) h
 simp [List.getElem?_drop] at this
 unfold nth
 simp [List.getD_eq_getElem?_getD,this]
theorem split_len {α:Type} {l l' vs vs':List α} (h:l++vs=l'++vs') (hl:vs.length=vs'.length):l=l'∧vs=vs':=List.append_inj' h hl
set_option maxRecDepth 100000 in
theorem takeTypes_any (s:Nat) (X:Nat→Prop) (wx w0:World) (g:Mg) (h:Hp) (qs:List Nat) (a:Mc) (c:Cal) (A:Option Addr) (cap:Nat) (ts:List Ty) (w:World) (H:RX s X wx w0 g w h qs a c) (F:Fix w0 g h) (hf:h.objs.length≤100)
  (hT:TysAt w0 A ts) (h4:ts.length≤4) (hg:∀v∈c.stk,v.kind=3→-1≤v.n∧v.n<h.objs.length) :
  Calls Try.prog 91 #[.pointer (some ⟨a.q,0,none⟩),.slice A ts.length cap] w fun e w'=>TTQ s X wx w0 g h qs a c ts w.heap.size e w':=by
 have HF:Hid (Fix w0 g h∧h.objs.length≤100):=⟨F,hf⟩
 have HT:=hid hT
 have HG:=hid hg
 have hmk:=make_mv ts.length (by omega)
 have HS:Hid (TTR s X wx w0 g h qs a c ts w.heap.size ts.length (w.alloc (.cells (vaCells (List.replicate ts.length va0)).toArray 109))):=by
  refine ⟨c.stk,[],by simp,by simp,fun k hk=>by omega,?_,?_⟩
  ·have:=H.y.bl ((Bl.refl w).alloc (.cells (vaCells (List.replicate ts.length va0)).toArray 109))
   exact this.less fun b hb=>Or.inr (by subst hb;simp)
  ·simpa using LBox.new w (List.replicate ts.length va0)
 clear H F hf hT hg
 go_enter Try.func91,Try.ntmps91
 go_wp2
 go_loopw [6] (fun i wr=>∃j:Nat,j≤ts.length∧i=.int .i64 ((j:Int)-1)∧Hid (TTR s X wx w0 g h qs a c ts w.heap.size j wr)) (fun i _=>(intOf i+1).toNat)
 case atStart=>exact ⟨ts.length,Nat.le_refl _,rfl,HS.out⟩
 case round =>
  clear HS hmk
  obtain ⟨j,hj,rfl,HR⟩:=hrel
  cases j with
  | zero =>
   go_wp2
   go_ret
   obtain ⟨l,vs,e1,e2,e3,e4,e5⟩:=HR.out
   exact Or.inl ⟨l,vs,e1,by omega,fun k hk=>by simpa using e3 k (by omega),rfl,e4,by simpa using e5⟩
  | succ j =>
   have ej:((j+1:Nat):Int)-1=(j:Int):=by omega
   rw [ej]
   obtain ⟨l,vs,e1,e2,e3,e4,e5⟩:=HR.out
   clear HR
   rcases HT.out.2 with h0|⟨tb,to,rfl,hcell⟩
   ·omega
   obtain ⟨t0,t1,-,-⟩:=hcell j (by omega)
   replace t0:=e4.bl0.cell t0
   replace t1:=e4.bl0.cell t1
   have HE:=hid e1
   have HE2:=hid e2
   have HE3:=hid e3
   have HX:=hid e4
   have HL:=hid e5
   generalize ht:nth ty0 ts j=t at *
   have HTT:=hid ht
   clear hcell e1 e2 e3 e4 e5 ht
   rcases List.eq_nil_or_concat l with hl|⟨l',v,hl⟩
   ·have HLL:=hid hl
    clear hl
    go_wp2_with (go_at_call 114;refine (HX.out.useN (Bl.refl _) (fun X wx w H=>takeType_none s X wx w0 g h qs a _ t w H HF.out.1 HF.out.2 HLL.out)).mono ?_;rintro e w1 ⟨rfl,H1⟩)
    refine ⟨rfl,Or.inr ⟨fun l2 vs2 d1 d2 d3=>?_,rfl,H1.of rfl ⟨rfl,rfl⟩⟩⟩
    have:(l2++vs2).length=(l++vs).length:=by rw [←d1,←HE.out]
    rw [HLL.out] at this
    have:=HE2.out
    simp at *
    omega
   ·have hl':l=l'++[v]:=by simpa using hl
    have HLL:=hid hl'
    have hvm:v∈c.stk:=by rw [HE.out,hl'];simp
    have HV:=hid (HG.out v hvm)
    clear hl hl' hvm
    cases ho:h.of v t with
    | false =>
     have HO:=hid ho
     clear ho
     go_wp2_with (go_at_call 114;refine (HX.out.useN (Bl.refl _) (fun X wx w H=>takeType_bad s X wx w0 g h qs a _ l' v t w H HF.out.1 HF.out.2 HLL.out HV.out HO.out)).mono ?_;rintro e w1 ⟨rfl,H1⟩)
     refine ⟨rfl,Or.inr ⟨fun l2 vs2 d1 d2 d3=>?_,rfl,H1.of rfl ⟨rfl,rfl⟩⟩⟩
     have e2:=HE2.out
     have es:vs2.drop j=v::vs:=by
      refine (split_len (l:=l2++vs2.take j) (l':=l') ?_ ?_).2
      ·rw [List.append_assoc,List.take_append_drop,←d1,HE.out,HLL.out];simp
      ·simp;omega
     have:=d3 j (by omega)
     rw [suf_at es,HTT.out,HO.out] at this
     cases this
    | true =>
     have HO:=hid ho
     clear ho
     go_wp2_with (go_at_call 114;refine (HX.out.useY (Bl.refl _) (fun X wx w H=>takeType_yes s X wx w0 g h qs a _ l' v t w H HF.out.1 HF.out.2 HLL.out HV.out HO.out)).mono ?_;rintro e w1 ⟨rfl,H1,K1⟩;have q1:=K1.at (Xp.old rfl) HL.out.blk;have x0:=(LBox.mk q1).c0 (i:=j) (by simp;omega);have x1:=(LBox.mk q1).c1 (i:=j) (by simp;omega);have fz:=free_blk q1;have H1:=hid H1;have K1:=hid K1;have q1:=hid q1)
     go_roundw
     case rel =>
      have hy:=(H1.out.less (Z:=fun x=>x=w.heap.size) fun b hb=>Xp.old hb)
      refine ⟨j,by omega,by go_num,l',v::vs,by rw [HE.out,HLL.out];simp,by have:=HE2.out;simp;omega,fun k hk=>?_,(hy.set rfl _ _).set rfl _ _,?_⟩
      ·cases k with
       | zero=>rw [Nat.add_zero,HTT.out];exact HO.out
       | succ k =>
        have:=HE3.out k (by omega)
        rw [show j+(k+1)=j+1+k by omega]
        exact this
      ·have:=(LBox.mk q1.out).set (i:=j) (by simp;omega) (im v)
       rw [rep_set] at this
       exact this
     case measure=>simp [intOf]
theorem ret_ib {k:IntKind} {a b:Int} {x y:Bool} (h:a=b) (h':x=y):Ending.returned (.tuple #[.int k a,.bool x])=.returned (.tuple #[.int k b,.bool y]):=by rw [h,h']
theorem hld1 (a:Int):hldB 1 a=(a==0):=by unfold hldB;by_cases h:a=0<;>simp [h]
theorem hld2 (a:Int):hldB 2 a=decide (a<0):=by unfold hldB;simp
theorem hld3 (a:Int):hldB 3 a=(a !=0):=by unfold hldB;by_cases h:a=0<;>simp [h]
theorem hld4 (a:Int):hldB 4 a=decide (0<a):=by unfold hldB;simp
theorem hld0 (c a:Int) (h1:¬c=1) (h2:¬c=2) (h3:¬c=3) (h4:¬c=4):hldB c a=false:=by unfold hldB;simp [h1,h2,h3,h4]
section
open Go.RowKit (wrap32 wrap64)
theorem narrow_any (a:Int) (w:World) :
  Calls Try.prog 15 #[.int .i64 a] w fun e w'=>e=.returned (.int .i64 (wrap32 a))∧w'=w:=by
 go_enter Try.func15,Try.ntmps15
 go_wp2
 go_ret
 exact ⟨ret_i (w64_w32 a),rfl⟩
end
section
open Go.RowKit (wrap32 wrap64)
theorem quotient_any (a b:Int) (w:World) :
  Calls Try.prog 33 #[.int .i64 a,.int .i64 b] w fun e w'=>e=.returned (.tuple #[.int .i64 (lngV 4 a b),.bool (lngB 4 b)])∧w'=w:=by
 by_cases h:b=0
 ·subst h
  go_enter Try.func33,Try.ntmps33
  go_wp2
  go_ret2
  exact ⟨ret_ib (by simp [lngV]) (by simp [lngB]),rfl⟩
 ·go_enter Try.func33,Try.ntmps33
  go_wp2
  go_ret2
  exact ⟨ret_ib (by simp [lngV,h]) (by simp [lngB,h]),rfl⟩
theorem remainder_any (a b:Int) (w:World) :
  Calls Try.prog 34 #[.int .i64 a,.int .i64 b] w fun e w'=>e=.returned (.tuple #[.int .i64 (lngV 5 a b),.bool (lngB 5 b)])∧w'=w:=by
 by_cases h:b=0
 ·subst h
  go_enter Try.func34,Try.ntmps34
  go_wp2
  go_ret2
  exact ⟨ret_ib (by simp [lngV]) (by simp [lngB]),rfl⟩
 ·go_enter Try.func34,Try.ntmps34
  go_wp2
  go_ret2
  exact ⟨ret_ib (by simp [lngV,h]) (by simp [lngB,h]),rfl⟩
theorem long_any (op a b:Int) (w:World) :
  Calls Try.prog 12 #[.int .i64 op,.int .i64 a,.int .i64 b] w fun e w'=>e=.returned (.tuple #[.int .i64 (lngV op a b),.bool (lngB op b)])∧w'=w:=by
 by_cases h1:op=1
 ·subst h1
  go_enter Try.func12,Try.ntmps12
  go_wp2
  go_ret2
  exact ⟨ret_ib (by simp [lngV]) (by simp [lngB]),rfl⟩
 by_cases h2:op=2
 ·subst h2
  go_enter Try.func12,Try.ntmps12
  go_wp2
  go_ret2
  exact ⟨ret_ib (by simp [lngV]) (by simp [lngB]),rfl⟩
 by_cases h3:op=3
 ·subst h3
  go_enter Try.func12,Try.ntmps12
  go_wp2
  go_ret2
  exact ⟨ret_ib (by simp [lngV]) (by simp [lngB]),rfl⟩
 by_cases h4:op=4
 ·subst h4
  go_enter Try.func12,Try.ntmps12
  go_wp2_with (go_at_call 33;refine (quotient_any _ _ _).mono ?_;rintro e w' ⟨rfl,rfl⟩)
  go_ret2
  exact ⟨rfl,rfl⟩
 by_cases h5:op=5
 ·subst h5
  go_enter Try.func12,Try.ntmps12
  go_wp2_with (go_at_call 34;refine (remainder_any _ _ _).mono ?_;rintro e w' ⟨rfl,rfl⟩)
  go_ret2
  exact ⟨rfl,rfl⟩
 by_cases h6:op=6
 ·subst h6
  go_enter Try.func12,Try.ntmps12
  go_wp2
  go_ret2
  exact ⟨ret_ib (lng_and a b).symm (by simp [lngB]),rfl⟩
 by_cases h7:op=7
 ·subst h7
  go_enter Try.func12,Try.ntmps12
  go_wp2
  go_ret2
  exact ⟨ret_ib (lng_or a b).symm (by simp [lngB]),rfl⟩
 by_cases h8:op=8
 ·subst h8
  go_enter Try.func12,Try.ntmps12
  go_wp2
  go_ret2
  exact ⟨ret_ib (lng_xor a b).symm (by simp [lngB]),rfl⟩
 have e1:lngV op a b=0:=by simp [lngV,h1,h2,h3,h4,h5,h6,h7,h8]
 have e2:lngB op b=false:=by simp only [lngB,decide_eq_false_iff_not];omega
 rw [e1,e2]
 clear e1 e2
 go_enter Try.func12,Try.ntmps12
 go_wp2
 go_ret2
 exact ⟨rfl,rfl⟩
theorem int_any (op a b:Int) (w:World) :
  Calls Try.prog 11 #[.int .i64 op,.int .i64 a,.int .i64 b] w fun e w'=>e=.returned (.tuple #[.int .i64 (wrap32 (lngV op (wrap32 a) (wrap32 b))),.bool (lngB op (wrap32 b))])∧w'=w:=by
 go_enter Try.func11,Try.ntmps11
 go_wp2_with (first|(go_at_call 15;refine (narrow_any _ _).mono ?_;rintro e w' ⟨rfl,rfl⟩)|(go_at_call 12;refine (long_any _ _ _ _).mono ?_;rintro e w' ⟨rfl,rfl⟩))
 go_ret2
 exact ⟨rfl,rfl⟩
theorem cmp_any (a b:Int) (w:World) :
  Calls Try.prog 16 #[.int .i64 a,.int .i64 b] w fun e w'=>e=.returned (.int .i64 (cmpV a b))∧w'=w:=by
 unfold cmpV
 by_cases h:a<b
 ·rw [if_pos h]
  go_enter Try.func16,Try.ntmps16
  go_wp2
  go_ret
  exact ⟨rfl,rfl⟩
 by_cases h':b<a
 ·rw [if_neg h,if_pos h']
  go_enter Try.func16,Try.ntmps16
  go_wp2
  go_ret
  exact ⟨rfl,rfl⟩
 ·rw [if_neg h,if_neg h']
  go_enter Try.func16,Try.ntmps16
  go_wp2
  go_ret
  exact ⟨rfl,rfl⟩
end
def anyR (l:List Ty):Bool:=l.any fun t=>decide (t.kind=3)
theorem anyR_hit {l:List Ty} {q:Nat} (hq:q<l.length) (h:(nth ty0 l q).kind=3):anyR l=true:=by
 unfold anyR;rw [List.any_eq_true];exact ⟨nth ty0 l q,nth_mem hq,by simpa using h⟩
theorem anyR_miss {l:List Ty} (h:∀q,q<l.length→(nth ty0 l q).kind≠3):anyR l=false:=by
 unfold anyR;rw [List.any_eq_false]
 intro x hx
 obtain ⟨k,hk,rfl⟩:=List.getElem_of_mem hx
 rw [←nth_get (d:=ty0) hk]
 simpa using h k hk
set_option maxRecDepth 100000 in
theorem takes_any (A R:Option Addr) (cap n rc:Nat) (ts:List Ty) (w:World) (hT:TysAt w A ts) (hn:n≤maxLen) :
  Calls Try.prog 97 #[.slice A ts.length cap,.slice R n rc] w fun e w'=>e=.returned (.bool (!(anyR ts)&&decide (n=ts.length)))∧Bl w w':=by
 have HT:=hid hT
 have hlm:=hT.1
 unfold maxLen at hlm hn
 clear hT
 have HHIT:Hid (∀q,q<ts.length→(nth ty0 ts q).kind=3→anyR ts=true):=fun q hq h=>anyR_hit hq h
 have HMISS:Hid ((∀q,q<ts.length→(nth ty0 ts q).kind≠3)→anyR ts=false):=anyR_miss
 obtain ⟨T,hTT⟩:∃T,anyR ts=T:=⟨_,rfl⟩
 rw [hTT] at HHIT HMISS ⊢
 clear hTT
 have hd:decide (n=ts.length)=((n:Int)==(ts.length:Int)):=by rw [Bool.eq_iff_iff];simp;omega
 rw [hd]
 clear hd
 go_enter Try.func97,Try.ntmps97
 go_wp2
 go_loopw [9] (fun i wr=>∃q:Nat,q≤ts.length∧i=.int .i64 q∧Hid (∀j,j<q→(nth ty0 ts j).kind≠3)∧Hid (Bl w wr)) (fun i _=>ts.length-(intOf i).toNat)
 case atStart=>exact ⟨0,Nat.zero_le _,rfl,fun j hj=>absurd hj (Nat.not_lt_zero _),Bl.refl _⟩
 case round =>
  obtain ⟨q,hq,rfl,hgq,hg⟩:=hrel
  by_cases hql:q<ts.length
  ·rcases (HT.out.bl hg.out).2 with z0|⟨b,off,rfl,hcell⟩
   ·omega
   obtain ⟨x0,x1,-,-⟩:=hcell q hql
   have HH:=hid (HHIT.out q hql)
   generalize hX:nth ty0 ts q=t at *
   have HX:=hid hX
   clear hcell hX
   by_cases h3:t.kind=3
   ·have HF:=hid (HH.out h3)
    have k3:(t.kind==3)=true:=by simpa using h3
    have H3:=hid h3
    clear h3 HH
    go_wp2
    go_ret
    exact ⟨ret_bool (by rw [HF.out];rfl),hg.out.alloc _⟩
   ·have k3:(t.kind==3)=false:=by simpa using h3
    have H3:Hid (¬t.kind=3):=h3
    clear h3 HH
    go_wp2
    go_roundw
    case rel=>exact ⟨q+1,by omega,by go_num,fun j hj=>if h:j<q then hgq.out j h else by have:j=q:=(by omega);subst this;rw [HX.out];exact H3.out,hg.out.alloc _⟩
    case measure=>simp [intOf];omega
  ·obtain rfl:q=ts.length:=by omega
   have HF:=hid (HMISS.out hgq.out)
   go_wp2
   all_goals
    go_ret
    refine ⟨ret_bool ?_,hg.out⟩
    rw [HF.out]
    simp [*]
def pvM (ts:List Ty) (args:List Int) (j:Nat):Va:=⟨(nth ty0 ts j).kind,if (nth ty0 ts j).kind=1 then wrap32 (nth (0:Int) args j) else nth (0:Int) args j⟩
def pvL (ts:List Ty) (args:List Int) (q:Nat):List Va:=(List.range ts.length).map (fun j=>if j<q then pvM ts args j else va0)
theorem pvL_zero (ts:List Ty) (args:List Int):pvL ts args 0=List.replicate ts.length va0:=by
 unfold pvL
 apply List.ext_getElem
 ·simp
 ·intro i h1 h2;simp
theorem pvL_length (ts:List Ty) (args:List Int) (q:Nat):(pvL ts args q).length=ts.length:=by simp [pvL]
theorem pvL_set (ts:List Ty) (args:List Int) (q:Nat):(pvL ts args q).set q (pvM ts args q)=pvL ts args (q+1):=by
 unfold pvL
 apply List.ext_getElem
 ·simp
 ·intro i h1 h2
  simp only [List.getElem_set,List.getElem_map,List.getElem_range]
  by_cases hi:q=i
  ·subst hi;simp
  ·rw [if_neg hi]
   by_cases hlt:i<q
   ·rw [if_pos hlt,if_pos (by omega)]
   ·rw [if_neg hlt,if_neg (by omega)]
set_option maxRecDepth 100000 in
theorem values_any (A R:Option Addr) (cap n rc:Nat) (ts:List Ty) (args:List Int) (w:World) (hT:TysAt w A ts) (hR:IntsAt w R args) (hl:args.length=ts.length) (h4:ts.length≤4) (hk:∀q,q<ts.length→(nth ty0 ts q).kind=1∨(nth ty0 ts q).kind=2) :
  Calls Try.prog 72 #[.slice A ts.length cap,.slice R args.length rc] w fun e w'=>e=.returned (.slice (some ⟨w.heap.size,0,none⟩) ts.length ts.length)∧LBox w' w.heap.size (pvL ts args ts.length)∧Bl w w':=by
 have HT:=hid hT
 have HR:=hid hR
 have HK:=hid hk
 have hmk:=make_mv ts.length (by omega)
 have HS:Hid (Bl w (w.alloc (.cells (vaCells (List.replicate ts.length va0)).toArray 109))∧LBox (w.alloc (.cells (vaCells (List.replicate ts.length va0)).toArray 109)) w.heap.size (pvL ts args 0)) :=
  ⟨(Bl.refl w).alloc _,by rw [pvL_zero];exact LBox.new w _⟩
 rw [hl]
 have HL:=hid hl
 clear hT hR hk hl
 go_enter Try.func72,Try.ntmps72
 go_wp2
 go_loopw [13] (fun i wr=>∃q:Nat,q≤ts.length∧i=.int .i64 q∧Hid (Bl w wr∧LBox wr w.heap.size (pvL ts args q))) (fun i _=>ts.length-(intOf i).toNat)
 case atStart=>exact ⟨0,Nat.zero_le _,rfl,HS.out⟩
 case round =>
  clear HS hmk
  obtain ⟨q,hq,rfl,HB⟩:=hrel
  by_cases hql:q<ts.length
  ·rcases (HT.out.bl HB.out.1).2 with z0|⟨tb,to,rfl,hcell⟩
   ·omega
   rcases (HR.out.bl HB.out.1).2 with z0|⟨rb,ro,rfl,hrc⟩
   ·have:=HL.out;omega
   obtain ⟨x0,x1,-,-⟩:=hcell q hql
   obtain ⟨y0,-⟩:=hrc q (by rw [HL.out];exact hql)
   have hkq:=HK.out q hql
   have HPS:=hid (pvL_set ts args q)
   have HPM:Hid (pvM ts args q=⟨(nth ty0 ts q).kind,if (nth ty0 ts q).kind=1 then wrap32 (nth (0:Int) args q) else nth (0:Int) args q⟩):=rfl
   generalize hX:nth ty0 ts q=t at *
   generalize hY:nth (0:Int) args q=a at *
   clear hcell hrc hX hY
   have hrlt:rb<w.heap.size:=by
    rcases HR.out.2 with z0|⟨rb',ro',ee,hrc⟩
    ·have:=HL.out;omega
    ·cases ee
     exact cell_lt (hrc q (by rw [HL.out];exact hql)).1
   have hnr:w.heap.size≠rb:=by omega
   have hnr2:rb≠w.heap.size:=by omega
   have y0a:∀o,(wr.alloc o).cell? ⟨rb,ro+q,none⟩=some (.int .i64 a):=fun o=>((Bl.refl wr).alloc o).cell y0
   have hlt:=lt_some HB.out.2.blk
   have hne:w.heap.size≠wr.heap.size:=by omega
   have hne2:wr.heap.size≠w.heap.size:=by omega
   have HBN:=hid (blk_new wr #[.int .i64 t.kind,.int .i64 t.cls] 54)
   have hqL:q<(pvL ts args q).length:=by rw [pvL_length];exact hql
   have HQL:=hid hqL
   have HAW:Hid (Bl wr (wr.alloc (tyMO t))):=(Bl.refl wr).alloc _
   clear hqL
   have FST:Hid (∀w1,Bl (wr.alloc (tyMO t)) w1→LBox w1 w.heap.size (pvL ts args q)∧w1.cell? ⟨wr.heap.size,0,none⟩=some (.int .i64 t.kind)):=fun w1 b1=>⟨HB.out.2.bl (HAW.out.trans b1),c0_of (bl_blk b1 HBN.out)⟩
   rcases hkq with h1|h2
   ·have HT1:=hid h1
    have k1:(t.kind==1)=true:=by simpa using h1
    clear h1
    obtain ⟨N,hN⟩:∃N,wrap32 a=N:=⟨_,rfl⟩
    have HN:=hid hN
    go_wp2_with (first
     | (have:=L2;go_at_call 15;refine (narrow_any _ _).mono ?_;rintro e w5 ⟨he,hw5⟩;rw [hN] at he;subst he;rw [hw5];clear hw5 w5)
     | (have:=L2;go_at_call 100;refine (mint_any N _).mono ?_;rintro e w3 ⟨rfl,b3⟩;have L3:=L2.out.bl b3;have z0:=L3.c0 (i:=q) (by rw [List.length_set];exact HQL.out);have z1:=L3.c1 (i:=q) (by rw [List.length_set];exact HQL.out);have fz3:=free_blk L3.blk;replace b3:=hid b3;have L3:=hid L3)
     | (go_at_call 99;refine (mlong_any a _).mono ?_;rintro e w1 ⟨rfl,b1⟩;obtain ⟨L1,kt⟩:=FST.out w1 b1;have v0:=L1.c0 HQL.out;have v1:=L1.c1 HQL.out;have fz1:=free_blk L1.blk;have L2:=hid (L1.set HQL.out ⟨2,a⟩);have y5:=(HAW.out.trans b1).cell y0;replace b1:=hid b1;replace L1:=hid L1))
    go_roundw
    case rel =>
     refine ⟨q+1,by omega,by go_num,?_,?_⟩
     ·have h1:Bl w w1:=(HB.out.1.trans HAW.out).trans b1.out
      have h2:=(h1.setCell (p:=⟨w.heap.size,q*2,none⟩) (Nat.le_refl _) (.int .i64 2)).setCell (p:=⟨w.heap.size,q*2+1,none⟩) (Nat.le_refl _) (.int .i64 a)
      have h3:=h2.trans b3.out
      exact (h3.setCell (p:=⟨w.heap.size,q*2,none⟩) (Nat.le_refl _) _).setCell (p:=⟨w.heap.size,q*2+1,none⟩) (Nat.le_refl _) _
     ·have:=L3.out.set (i:=q) (by rw [List.length_set];exact HQL.out) ⟨1,N⟩
      rw [List.set_set] at this
      rw [←HPS.out,HPM.out,HT1.out,if_pos rfl,HN.out]
      exact this
    case measure=>simp [intOf];omega
   ·have HT2:=hid h2
    have k1:(t.kind==1)=false:=by rw [h2];rfl
    clear h2
    go_wp2_with (first
     | (go_at_call 99;refine (mlong_any a _).mono ?_;rintro e w1 ⟨rfl,b1⟩;obtain ⟨L1,kt⟩:=FST.out w1 b1;have v0:=L1.c0 HQL.out;have v1:=L1.c1 HQL.out;have fz1:=free_blk L1.blk;have L2:=hid (L1.set HQL.out ⟨2,a⟩);replace b1:=hid b1;replace L1:=hid L1))
    go_roundw
    case rel =>
     refine ⟨q+1,by omega,by go_num,?_,?_⟩
     ·have h1:Bl w w1:=(HB.out.1.trans HAW.out).trans b1.out
      exact (h1.setCell (p:=⟨w.heap.size,q*2,none⟩) (Nat.le_refl _) _).setCell (p:=⟨w.heap.size,q*2+1,none⟩) (Nat.le_refl _) _
     ·rw [←HPS.out,HPM.out,HT2.out,if_neg (by decide)]
      exact L2.out
    case measure=>simp [intOf];omega
  ·obtain rfl:q=ts.length:=by omega
   go_wp2
   go_ret
   exact ⟨rfl,HB.out.2,HB.out.1⟩

end Go.Proofs.Ytgiiapenmjollaa
