import Derived.Test.YtgiiapenmjollaaGreatRraa
import Derived.Test.YtgiiapenmjollaaGreatChecked
import Derived.WalkKit
import Derived.RowKit3
import Derived.Handy
namespace Go.Proofs.YtgiiapenmjollaaGreat
set_option linter.all false
set_option maxHeartbeats 40000000
set_option maxRecDepth 100000
open Go.RowKit
open Tryz
variable {h h':Hp} {l:List Int} {s:Nat} {v:Va} {w w':World}
section
open Go.RowKit (wrap32 wrap64)
theorem tu (a b:Int) (w:World) :
  χ 254 #[ι a,ι b] w fun e w'=>e=.returned (.tuple #[ι (dD 4 a b),.bool (ep 4 b)])/\w'=w:=by
 by_cases h:b=0
 ·subst h
  go_enter func254,ntmps254
  go_wp2
  go_ret2
  exact ⟨eD (by simp [dD]) (by simp [ep]),rfl⟩
 ·go_enter func254,ntmps254
  go_wp2
  go_ret2
  exact ⟨eD (by simp [dD,h]) (by simp [ep,h]),rfl⟩
theorem sR (a b:Int) (w:World) :
  χ 255 #[ι a,ι b] w fun e w'=>e=.returned (.tuple #[ι (dD 5 a b),.bool (ep 5 b)])/\w'=w:=by
 by_cases h:b=0
 ·subst h
  go_enter func255,ntmps255
  go_wp2
  go_ret2
  exact ⟨eD (by simp [dD]) (by simp [ep]),rfl⟩
 ·go_enter func255,ntmps255
  go_wp2
  go_ret2
  exact ⟨eD (by simp [dD,h]) (by simp [ep,h]),rfl⟩
theorem wS (op a b:Int) (w:World) :
  χ 245 #[ι op,ι a,ι b] w fun e w'=>e=.returned (.tuple #[ι (dD op a b),.bool (ep op b)])/\w'=w:=by
 by_cases h1:op=1
 ·subst h1
  go_enter func245,ntmps245
  go_wp2
  go_ret2
  exact ⟨eD (by simp [dD]) (by simp [ep]),rfl⟩
 by_cases h2:op=2
 ·subst h2
  go_enter func245,ntmps245
  go_wp2
  go_ret2
  exact ⟨eD (by simp [dD]) (by simp [ep]),rfl⟩
 by_cases h3:op=3
 ·subst h3
  go_enter func245,ntmps245
  go_wp2
  go_ret2
  exact ⟨eD (by simp [dD]) (by simp [ep]),rfl⟩
 by_cases h4:op=4
 ·subst h4
  go_enter func245,ntmps245
  go_wp2_with (go_at_call 254;refine (tu _ _ _).mono ?_;rintro e w' ⟨rfl,rfl⟩)
  go_ret2
  exact ⟨rfl,rfl⟩
 by_cases h5:op=5
 ·subst h5
  go_enter func245,ntmps245
  go_wp2_with (go_at_call 255;refine (sR _ _ _).mono ?_;rintro e w' ⟨rfl,rfl⟩)
  go_ret2
  exact ⟨rfl,rfl⟩
 by_cases h6:op=6
 ·subst h6
  go_enter func245,ntmps245
  go_wp2
  go_ret2
  exact ⟨eD (J1 a b).symm (by simp [ep]),rfl⟩
 by_cases h7:op=7
 ·subst h7
  go_enter func245,ntmps245
  go_wp2
  go_ret2
  exact ⟨eD (Nx a b).symm (by simp [ep]),rfl⟩
 by_cases h8:op=8
 ·subst h8
  go_enter func245,ntmps245
  go_wp2
  go_ret2
  exact ⟨eD (J2 a b).symm (by simp [ep]),rfl⟩
 have e1:dD op a b=0:=by simp [dD,h1,h2,h3,h4,h5,h6,h7,h8]
 have e2:ep op b=false:=by simp only [ep,decide_eq_false_iff_not];omega
 rw [e1,e2]
 clear e1 e2
 go_enter func245,ntmps245
 go_wp2
 go_ret2
 exact ⟨rfl,rfl⟩
theorem Kb (op a b:Int) (w:World) :
  χ 246 #[ι op,ι a,ι b] w fun e w'=>e=.returned (.tuple #[ι (wrap32 (dD op (wrap32 a) (wrap32 b))),.bool (ep op (wrap32 b))])/\w'=w:=by
 go_enter func246,ntmps246
 go_wp2_with (first|(go_at_call 102;refine (kG _ _).mono ?_;rintro e w' ⟨rfl,rfl⟩)|(go_at_call 245;refine (wS _ _ _ _).mono ?_;rintro e w' ⟨rfl,rfl⟩))
 go_ret2
 exact ⟨rfl,rfl⟩
theorem Kc (a b:Int) (w:World) :
  χ 194 #[ι a,ι b] w fun e w'=>e=.returned (ι (lh a b))/\w'=w:=by
 unfold lh
 by_cases h:a<b
 ·rw [if_pos h]
  go_enter func194,ntmps194
  go_wp2
  go_ret
  exact ⟨rfl,rfl⟩
 by_cases h':b<a
 ·rw [if_neg h,if_pos h']
  go_enter func194,ntmps194
  go_wp2
  go_ret
  exact ⟨rfl,rfl⟩
 ·rw [if_neg h,if_neg h']
  go_enter func194,ntmps194
  go_wp2
  go_ret
  exact ⟨rfl,rfl⟩
end
def dJ (regs n kind:Int):Bool:=decide (0<=n/\n<=regs-(if kind=2 then 2 else 1))
def aW (op:Int):Option (Int×Int×Int) :=
 if op=1 then some (1,0,0)
 else if op=2 then some (2,0,0)
 else if op=3 then some (3,0,0)
 else if op=4 then some (-1,-1,-1)
 else if op=5 then some (1,1,1)
 else if op=6 then some (2,2,2)
 else if op=7 then some (2,1,0)
 else if op=8 then some (1,2,0)
 else if op=9 then some (1,2,2)
 else if op=10 then some (-1,0,0)
 else if op=11 then some (-1,-1,1)
 else if op=12 then some (-1,0,3)
 else if op=13 then some (3,-1,0)
 else if op=14 then some (-1,3,-1)
 else if op=15 then some (-1,3,-1)
 else if op=16 then some (3,-1,0)
 else if op=17 then some (1,3,-1)
 else if op=18 then some (-1,0,0)
 else if op=19 then some (-1,-1,0)
 else if op=20 then some (-1,0,0)
 else if op=21 then some (3,0,0)
 else if op=22 then some (3,0,0)
 else if op=23 then some (-1,-1,0)
 else if op=24 then some (2,0,0)
 else none
def bp (regs n kind:Int):Bool:=if kind=0 then decide (n=0) else if 0<kind then dJ regs n kind else true
def aM (cs:List Cl) (ms:List Me) (fS:Nat) (regs ret:Int) (i:In):Bool :=
 decide (i.op=18∨i.args.length=0) &&
 (if i.op=14∨i.op=15 then decide (0<=i.c/\i.c<cs.length/\0<=i.n/\i.n<(nth bL cs i.c.toNat).fields.length)&&dJ regs i.a (nth bS (nth bL cs i.c.toNat).fields i.n.toNat).kind
 else if i.op=1 then decide (-2147483648<=i.n/\i.n<=2147483647)
 else if i.op=2 then true
 else if i.op=5∨i.op=6 then decide (1<=i.n/\i.n<=8)
 else decide (i.n=0) &&
  (if i.op=4 then decide (1<=i.c/\i.c<=3)&&dJ regs i.a i.c&&dJ regs i.b i.c
  else if i.op=10∨i.op=12 then decide (0<=i.a/\i.a<fS)
  else if i.op=11 then decide (0<=i.a/\i.a<fS/\1<=i.b/\i.b<=4)
  else if i.op=13∨i.op=16 then decide (0<=i.b/\i.b<cs.length)
  else if i.op=17 then decide (0<=i.c/\i.c<cs.length)
  else if i.op=19 then decide (1<=i.b/\i.b<=3)&&dJ regs i.a i.b
  else if i.op=23 then decide (1<=i.b/\i.b<=2)&&dJ regs i.a i.b
  else if i.op=20 then (if ret=0 then decide (i.a=0) else dJ regs i.a ret)
  else if i.op=18 then decide (0<=i.a/\i.a<ms.length/\i.args.length=(nth bT ms i.a.toNat).params.length) &&
   (List.range i.args.length).all (fun k=>dJ regs (nth (0:Int) i.args k) (nth bS (nth bT ms i.a.toNat).params k).kind)
  else true))
def bU (cs:List Cl) (ms:List Me) (fS:Nat) (regs ret:Int) (i:In):Bool :=
 match aW i.op with
 | none=>false
 | some (x,y,z)=>bp regs i.a x&&bp regs i.b y&&bp regs i.c z&&aM cs ms fS regs ret i
def fG (cs:List Cl) (ms:List Me) (m:Me):Bool :=
 dS cs.length m 2400&&decide (m.stack=0/\m.locs=0/\1<=m.regs/\m.regs<=90/\(cj m.params:Int)<=m.regs)&&m.code.all (bU cs ms m.code.length m.regs m.ret.kind)
def bJ (f:Fi):Bool:=dt f.classes&&decide (1<=f.methods.length/\f.methods.length<=8)&&f.methods.all (fG f.classes f.methods)
structure jw (h:Hp) (v:Va):Prop where
 ref:v.kind=3->-1<=v.n/\v.n<h.objs.length
 num:cJ v.n
theorem jx (h:Hp):jw h aE:=⟨fun e=>absurd e (by decide),by unfold cJ;decide⟩
theorem Fy (ho:h.over=false):(h.fin 6).over=true:=by simp [Hp.fin,ho]
structure pR (cs:List Cl) (ms:List Me) (fS:Nat) (regs ret:Int) (i:In):Prop where
 op:1<=i.op/\i.op<=24
 a:(i.op<=9∨(13<=i.op/\i.op<=17)∨i.op=19∨21<=i.op)->0<=i.a/\i.a<regs
 two:(i.op=2∨i.op=6∨i.op=7∨i.op=24∨(i.op=4/\i.c=2)∨(i.op=19/\i.b=2)∨(i.op=14/\(nth bS (nth bL cs i.c.toNat).fields i.n.toNat).kind=2))->i.a+1<regs
 b:(4<=i.op/\i.op<=9∨i.op=14∨i.op=15∨i.op=17)->0<=i.b/\i.b<regs
 c:(i.op=5∨i.op=6∨i.op=9∨i.op=11∨i.op=12)->0<=i.c/\i.c<regs
 move:i.op=4->1<=i.c/\i.c<=3
 res:i.op=19->1<=i.b/\i.b<=3
 emit:i.op=23->1<=i.b/\i.b<=2
 fld:i.op=14∨i.op=15->0<=i.c/\i.c<cs.length/\0<=i.n/\i.n<(nth bL cs i.c.toNat).fields.length
 cls:i.op=13∨i.op=16->0<=i.b/\i.b<cs.length
 is':i.op=17->0<=i.c/\i.c<cs.length
 call:i.op=18->0<=i.a/\i.a<ms.length/\i.args.length=(nth bT ms i.a.toNat).params.length
 args:i.op=18->∀k,k<i.args.length->0<=nth (0:Int) i.args k/\nth (0:Int) i.args k<regs
 jump:i.op=10∨i.op=11∨i.op=12->0<=i.a/\i.a<fS
 ret:i.op=20->ret≠0->0<=i.a/\i.a<regs
theorem qa (regs n kind:Int):(dJ regs n kind=true)=(0<=n/\n<regs/\(kind=2->n+1<regs)):=by
 unfold dJ
 rw [decide_eq_true_eq]
 by_cases hk:kind=2
 ·rw [if_pos hk];apply propext;constructor<;>intro h<;>omega
 ·rw [if_neg hk];apply propext;constructor<;>intro h<;>omega
section
variable {cs:List Cl} {ms:List Me} {fS:Nat} {regs ret:Int} {i:In}
theorem Fz (h:bU cs ms fS regs ret i=true):1<=i.op/\i.op<=24:=by
 have hk:aW i.op≠none:=by
  intro hn
  unfold bU at h
  rw [hn] at h
  exact Bool.noConfusion h
 by_cases hr:1<=i.op/\i.op<=24
 ·exact hr
 ·exfalso
  apply hk
  unfold aW
  repeat rw [if_neg (by omega)]
theorem NF (h:bU cs ms fS regs ret i=true):pR cs ms fS regs ret i:=by
 have hop:=Fz h
 unfold bU at h
 rcases (by omega:i.op=1∨i.op=2∨i.op=3∨i.op=4∨i.op=5∨i.op=6∨i.op=7∨i.op=8∨i.op=9∨i.op=10∨i.op=11∨i.op=12∨i.op=13∨i.op=14∨i.op=15∨i.op=16∨i.op=17∨i.op=18∨i.op=19∨i.op=20∨i.op=21∨i.op=22∨i.op=23∨i.op=24) with e|e|e|e|e|e|e|e|e|e|e|e|e|e|e|e|e|e|e|e|e|e|e|e
 all_goals
  simp only [e,aW,bp,aM,qa,true_implies,false_implies,if_true,if_false,Int.reduceEq,Int.reduceLT,Int.reduceNeg,or_true,true_or,or_false,false_or,or_self,Bool.and_eq_true,decide_eq_true_eq,List.all_eq_true,List.mem_range,Bool.true_and,decide_true] at h
 all_goals
  constructor
  all_goals intros
  all_goals first|omega|(exact ⟨(h.2.2.2 _ ‹_›).1,(h.2.2.2 _ ‹_›).2.1⟩)|(have h':=h.2.2.2;rw [if_neg ‹_›,qa] at h';omega)
end
theorem nG (a:Int):cJ (wrap64 a):=by have:=Nv a;unfold cJ;omega
theorem qd (a:Int):cJ (wrap32 a):=by have:=yJ a;unfold cJ;omega
theorem FC (a b:Int) (ha:cJ a):cJ (a.tmod b):=by
 have h1:(a.tmod b).natAbs=a.natAbs%b.natAbs:=Int.natAbs_tmod a b
 have h2:a.natAbs%b.natAbs<=a.natAbs:=Nat.mod_le _ _
 have h3:=tf a b
 unfold cJ at *
 omega
theorem Ke (op a b:Int) (ha:cJ a):cJ (dD op a b):=by
 have h0:cJ 0:=by unfold cJ;omega
 unfold dD
 split
 ·exact nG _
 split
 ·exact nG _
 split
 ·exact nG _
 split
 ·split
  ·exact h0
  ·exact nG _
 split
 ·split
  ·exact h0
  ·exact FC a b ha
 split
 ·exact nG _
 ·exact h0
structure Le (h h':Hp):Prop where
 file:h'.file=h.file
 input:h'.input=h.input
 fuel:h'.fuel=h.fuel
 objs:h.objs.length<=h'.objs.length
 steps:h.sh.steps<=h'.sh.steps
 calls:h'.calls=h.calls
theorem Le.refl (h:Hp):Le h h:=⟨rfl,rfl,rfl,Nat.le_refl _,Int.le_refl _,rfl⟩
theorem Le.trans {a b c:Hp} (h:Le a b) (k:Le b c):Le a c:=⟨k.file.trans h.file,k.input.trans h.input,k.fuel.trans h.fuel,Nat.le_trans h.objs k.objs,Int.le_trans h.steps k.steps,k.calls.trans h.calls⟩
theorem jw.le (g:jw h v) (l:Le h h'):jw h' v:=⟨fun e=>⟨(g.ref e).1,by have:=(g.ref e).2;have:=l.objs;omega⟩,g.num⟩
structure Gh (s:Nat) (h:Hp):Prop where
 held:∀o∈h.objs,∀x∈o.held,jw h x.v
 thr:-1<=h.thrown/\h.thrown<h.objs.length
 used:0<=h.sh.used
 steps:h.sh.steps<=h.fuel
 fuel:0<=h.fuel/\h.fuel<=60000
 o:(h.sh.o.length:Int)+s<=h.sh.steps
 len:h.objs.length<=100
 inp:∀n∈h.input,cJ n
 calls:0<=h.calls/\h.calls<=20
theorem Gh.same (g:Gh s h) (e1:h'.objs=h.objs) (e2:h'.sh.used=h.sh.used) (e3:h'.sh.steps=h.sh.steps) (e4:h'.fuel=h.fuel) (e5:h'.sh.o=h.sh.o) (e6:h'.input=h.input) (e7:h'.calls=h.calls) (ht:-1<=h'.thrown/\h'.thrown<h'.objs.length):Gh s h' :=
 ⟨fun o ho x hx=>⟨fun e=>by rw [e1];exact (g.held o (e1▸ho) x hx).ref e,(g.held o (e1▸ho) x hx).num⟩,ht,by rw [e2];exact g.used,by rw [e3,e4];exact g.steps,by rw [e4];exact g.fuel,by rw [e5,e3];exact g.o,by rw [e1];exact g.len,by rw [e6];exact g.inp,by rw [e7];exact g.calls⟩
theorem Gh.less (g:Gh s h):Gh 0 h:=⟨g.held,g.thr,g.used,g.steps,g.fuel,by have:=g.o;omega,g.len,g.inp,g.calls⟩
theorem gN (h:Hp) (e:Int):Le h (h.fin e):=by unfold Hp.fin;split<;>exact ⟨rfl,rfl,rfl,Nat.le_refl _,Int.le_refl _,rfl⟩
theorem Gh.fin (g:Gh s h) (e:Int):Gh s (h.fin e):=by
 unfold Hp.fin;split
 ·exact g
 ·exact g.same rfl rfl rfl rfl rfl rfl rfl g.thr
theorem dw (h:Hp) (b:Bool):Le h (h.must b):=by unfold Hp.must;split;exact Le.refl h;exact gN h 6
theorem Gh.must (g:Gh s h) (b:Bool):Gh s (h.must b):=by unfold Hp.must;split;exact g;exact g.fin 6
theorem Kf (h:Hp) (t:Ty):jw h (jb t):=by
 unfold jb
 refine ⟨fun e=>?_,?_⟩
 ·dsimp only at e ⊢;rw [if_pos e];omega
 ·dsimp only;split<;>(unfold cJ;omega)
theorem yR (h:Hp) (cs:List Cl) (c:Nat):∀x∈cZ cs c,jw h x.v:=by
 intro x hx
 unfold cZ at hx
 rw [List.mem_flatMap] at hx
 obtain ⟨d,-,hd⟩:=hx
 unfold gL at hd
 split at hd
 ·rw [List.mem_map] at hd
  obtain ⟨k,-,rfl⟩:=hd
  exact Kf h _
 ·simp at hd
theorem yS (h:Hp) (c:Int):Le h (h.new c):=by
 unfold Hp.new;split
 ·exact gN h 4
 ·exact ⟨rfl,rfl,rfl,by simp,Int.le_refl _,rfl⟩
theorem Gh.new (g:Gh s h) (c:Int):Gh s (h.new c):=by
 have hle:=yS h c
 unfold Hp.new at hle ⊢;split
 ·exact g.fin 4
 ·rename_i hf
  have hlt:h.objs.length<100:=by unfold Hp.full at hf;simpa using hf
  rw [if_neg hf] at hle
  refine ⟨fun o ho x hx=>?_,?_,g.used,g.steps,g.fuel,g.o,?_,g.inp,g.calls⟩
  ·rw [List.mem_append] at ho
   rcases ho with ho|ho
   ·exact (g.held o ho x hx).le hle
   ·simp at ho;subst ho;exact yR _ _ _ x hx
  ·have:=g.thr;dsimp only;rw [List.length_append];omega
  ·dsimp only;rw [List.length_append];simp;omega
theorem Kg (h:Hp) (c:Int):jw (h.new c) h.newV:=by
 unfold Hp.newV Hp.new
 split
 ·exact jx _
 ·refine ⟨fun _=>by dsimp only;rw [List.length_append];simp;omega,?_⟩
  rename_i hf
  have hlt:h.objs.length<100:=by unfold Hp.full at hf;simpa using hf
  dsimp only;unfold cJ;omega
theorem nH (h:Hp) (c:Int):Le h (h.raise c):=by
 have:=yS h c
 unfold Hp.raise;split
 ·exact this
 ·exact ⟨this.file,this.input,this.fuel,this.objs,this.steps,this.calls⟩
theorem Gh.raise (g:Gh s h) (c:Int):Gh s (h.raise c):=by
 have gn:=g.new c
 unfold Hp.raise;split
 ·exact gn
 ·rename_i ho
  refine gn.same rfl rfl rfl rfl rfl rfl rfl ?_
  dsimp only
  have hf:¬h.full=true:=fun hf=>ho (by unfold Hp.new;rw [if_pos hf];unfold Hp.fin;split<;>simp_all)
  unfold Hp.newV Hp.new
  rw [if_neg hf,if_neg hf]
  dsimp only
  rw [List.length_append]
  simp
  omega
theorem qP (h:Hp) (v:Va):Le h (h.throw v):=by
 unfold Hp.throw;split
 ·split
  ·exact nH h 1
  ·exact ⟨rfl,rfl,rfl,Nat.le_refl _,Int.le_refl _,rfl⟩
 ·exact dw h _
theorem Gh.throw (g:Gh s h) (v:Va) (hv:jw h v):Gh s (h.throw v):=by
 unfold Hp.throw;split
 ·rename_i hm
  split
  ·exact g.raise 1
  ·rename_i hn
   have hk:v.kind=3:=by have:=(dE hm).1;unfold isRef at this;exact of_decide_eq_true this
   exact g.same rfl rfl rfl rfl rfl rfl rfl ⟨by dsimp only;omega,(hv.ref hk).2⟩
 ·exact g.must _
theorem lF (h:Hp) (r:Va) (c:Int):Le h (h.findH r c):=by
 unfold Hp.findH;split
 ·split
  ·exact nH h 1
  ·exact Le.refl h
 ·exact dw h _
theorem Gh.findH (g:Gh s h) (r:Va) (c:Int):Gh s (h.findH r c):=by
 unfold Hp.findH;split
 ·split
  ·exact g.raise 1
  ·exact g
 ·exact g.must _
theorem Kh (g:Gh s h) (r:Va) (c k:Int) (hr:jw h r):jw h (h.getV r c k):=by
 unfold Hp.getV;split
 ·exact jx h
 ·rename_i hn
  obtain ⟨q,hq⟩:∃q:Nat,h.findN r c k=q:=⟨(h.findN r c k).toNat,by omega⟩
  have hk:h.mustB (h.of r ⟨3,c⟩)=true:=by
   by_cases hm:h.mustB (h.of r ⟨3,c⟩)=true
   ·exact hm
   ·unfold Hp.findN at hq;rw [if_neg hm] at hq;omega
  have h3:r.kind=3:=kD (dE hk).1
  have ig:¬r.n<0:=fun hh=>by unfold Hp.findN at hq;rw [if_pos hk,if_pos hh] at hq;omega
  have he:eB (h.obj r.n).held c k=q:=by unfold Hp.findN at hq;rw [if_pos hk,if_neg ig] at hq;exact hq
  have hlt:q<(h.obj r.n).held.length:=by
   rcases th (h.obj r.n).held c k with h0|⟨q',h1,h2⟩
   ·omega
   ·omega
  have Bf:r.n.toNat<h.objs.length:=by have:=(hr.ref h3).2;omega
  rw [hq,Int.toNat_natCast]
  exact g.held _ (bE Bf) _ (bE hlt)
theorem yT (h:Hp) (r:Va) (c k:Int) (v:Va):Le h (h.put r c k v):=by
 unfold Hp.put;split
 ·split
  ·exact lF h r c
  ·have:=lF h r c
   exact ⟨this.file,this.input,this.fuel,by unfold Hp.setV;dsimp only;rw [List.length_set];exact this.objs,this.steps,this.calls⟩
 ·exact dw h _
theorem eM {α:Type} {l:List α} {n:Nat} {x y:α} (h:y∈l.set n x):y=x∨y∈l:=by
 rcases List.mem_or_eq_of_mem_set h with h|h
 ·exact Or.inr h
 ·exact Or.inl h
theorem Gh.put (g:Gh s h) (r:Va) (c k:Int) (v:Va) (hv:jw h v):Gh s (h.put r c k v):=by
 unfold Hp.put;split
 ·split
  ·exact g.findH r c
  ·have gf:=g.findH r c
   have gv:=hv.le (lF h r c)
   generalize h.findH r c=h1 at gf gv
   generalize r.n.toNat=n
   generalize (h.findN r c k).toNat=j
   refine ⟨fun o ho x hx=>?_,?_,gf.used,gf.steps,gf.fuel,gf.o,?_,gf.inp,gf.calls⟩
   ·have key:jw h1 x.v:=by
     unfold Hp.setV at ho
     dsimp only at ho
     by_cases hn:n<h1.objs.length
     ·rcases eM ho with rfl|ho
      ·dsimp only at hx
       rcases eM hx with rfl|hx
       ·exact gv
       ·exact gf.held _ (bE hn) x hx
      ·exact gf.held o ho x hx
     ·rw [List.set_eq_of_length_le (by omega)] at ho;exact gf.held o ho x hx
    exact ⟨fun e=>by unfold Hp.setV;dsimp only;rw [List.length_set];exact key.ref e,key.num⟩
   ·have:=gf.thr;unfold Hp.setV;dsimp only;rw [List.length_set];exact this
   ·unfold Hp.setV;dsimp only;rw [List.length_set];exact gf.len
 ·exact g.must _
theorem ve (h:Hp) (v:Va) (c:Int):Le h (h.cast v c):=by
 unfold Hp.cast;split
 ·split
  ·exact Le.refl h
  ·exact nH h 3
 ·exact dw h _
theorem Gh.cast (g:Gh s h) (v:Va) (c:Int):Gh s (h.cast v c):=by
 unfold Hp.cast;split
 ·split
  ·exact g
  ·exact g.raise 3
 ·exact g.must _
theorem vf (h:Hp) (v:Va) (k:Int):Le h (h.emit v k):=by
 unfold Hp.emit;split
 ·exact ⟨rfl,rfl,rfl,Nat.le_refl _,Int.le_refl _,rfl⟩
 ·exact dw h _
theorem Gh.emit (g:Gh 1 h) (v:Va) (k:Int):Gh 0 (h.emit v k):=by
 unfold Hp.emit;split
 ·refine ⟨(fun o ho x hx=>⟨(g.held o ho x hx).ref,(g.held o ho x hx).num⟩),g.thr,g.used,g.steps,g.fuel,?_,g.len,g.inp,g.calls⟩
  have:=g.o;dsimp only;rw [List.length_append];simp;omega
 ·exact (g.must _).less
theorem wT (h:Hp):Le h h.input':=by
 unfold Hp.input';split
 ·exact gN h 3
 ·exact ⟨rfl,rfl,rfl,Nat.le_refl _,Int.le_refl _,rfl⟩
theorem Gh.input (g:Gh s h):Gh s h.input':=by
 unfold Hp.input';split
 ·exact g.fin 3
 ·exact ⟨(fun o ho x hx=>⟨(g.held o ho x hx).ref,(g.held o ho x hx).num⟩),g.thr,by have:=g.used;dsimp only;omega,g.steps,g.fuel,g.o,g.len,g.inp,g.calls⟩
theorem NG (g:Gh s h):jw h h.inV:=by
 unfold Hp.inV;split
 ·exact jx h
 ·rename_i hd
  refine ⟨fun e=>by dsimp only at e;omega,?_⟩
  dsimp only
  have hu:=g.used
  have hlt:h.sh.used.toNat<h.input.length:=by unfold Hp.dry at hd;simp at hd;omega
  exact g.inp _ (bE hlt)
theorem wU (h:Hp) (a b:Va) (k op:Int):Le h (h.reckH a b k op):=by
 unfold Hp.reckH;split
 ·split
  ·exact Le.refl h
  ·exact nH h 2
 ·exact dw h _
theorem Gh.reckH (g:Gh s h) (a b:Va) (k op:Int):Gh s (h.reckH a b k op):=by
 unfold Hp.reckH;split
 ·split
  ·exact g
  ·exact g.raise 2
 ·exact g.must _
theorem wV (h h':Hp) (a b:Va) (k op:Int) (hk:k=1∨k=2) (ha:cJ a.n):jw h' (h.reckV a b k op):=by
 unfold Hp.reckV;split
 ·refine ⟨fun e=>by dsimp only at e;omega,?_⟩
  dsimp only;unfold lB;split
  ·exact qd _
  ·exact Ke _ _ _ ha
 ·exact jx _
theorem jC (h:Hp):Le h h.step:=by
 unfold Hp.step;split
 ·exact Le.refl h
 ·split
  ·exact gN h 0
  ·exact ⟨rfl,rfl,rfl,Nat.le_refl _,by dsimp only;omega,rfl⟩
theorem Gh.step (g:Gh 0 h) (hb:h.stepB=true):Gh 1 h.step:=by
 unfold Hp.stepB at hb
 simp at hb
 unfold Hp.step
 rw [if_neg (by rw [hb.1];decide),if_neg (by omega)]
 exact ⟨(fun o ho x hx=>⟨(g.held o ho x hx).ref,(g.held o ho x hx).num⟩),g.thr,g.used,by dsimp only;omega,g.fuel,by have:=g.o;dsimp only;omega,g.len,g.inp,g.calls⟩
theorem Gh.step0 (g:Gh 0 h) (hb:h.stepB=false):Gh 0 h.step:=by
 unfold Hp.stepB at hb
 unfold Hp.step;split
 ·exact g
 ·rename_i ho
  split
  ·exact g.fin 0
  ·rename_i hf
   have:h.over=false:=by simpa using ho
   rw [this] at hb
   simp at hb
   omega
structure Gc (h:Hp) (c:aL):Prop where
 giv:jw h c.giv
 cau:jw h c.cau
 locs:∀v∈c.locs,jw h v
 ok:iK c.locs
 len:(c.locs.length:Int)=c.m.regs
 me:fG h.file.classes h.file.methods c.m=true
 mok:∀i∈c.m.code,i.ok
theorem Ki (l:List Va):l.length<=bN l:=by
 induction l with
 | nil=>simp [bN]
 | cons t l ih=>simp only [bN,List.length_cons];split<;>omega
theorem jD (l k:List Va):bN (l++k)=bN l+bN k:=by
 induction l with
 | nil=>simp [bN]
 | cons t l ih=>simp only [bN,List.cons_append,ih];omega
theorem lG (l:List Va) (n:Nat):bN (l.take n)<=bN l:=by
 have:=jD (l.take n) (l.drop n)
 rw [List.take_append_drop] at this
 omega
theorem j6 {cs:List Cl} {ms:List Me} {m:Me} (h:fG cs ms m=true):1<=m.regs/\m.regs<=90/\(cj m.params:Int)<=m.regs/\m.params.length<=4/\1<=m.code.length/\m.code.length<=2400/\(∀i∈m.code,bU cs ms m.code.length m.regs m.ret.kind i=true)/\(∀t∈m.params,fP cs.length t=true)/\(∀x∈m.hands,nk cs.length m.code.length x=true)/\mn cs.length m.ret=true:=by
 unfold fG dS at h
 simp only [Bool.and_eq_true,List.all_eq_true,decide_eq_true_eq] at h
 obtain ⟨⟨⟨⟨⟨h1,h2⟩,h3⟩,h4⟩,h5⟩,h6⟩:=h
 exact ⟨by omega,by omega,by omega,by omega,by omega,by omega,h6,h2,h3,h4⟩
theorem Gc.le {c:aL} (g:Gc h c) (l:Le h h'):Gc h' c :=
 ⟨g.giv.le l,g.cau.le l,fun v hv=>(g.locs v hv).le l,g.ok,g.len,by rw [l.file];exact g.me,g.mok⟩
section
variable {h:Hp} {c:aL}
theorem Gc.pc (g:Gc h c) (n:Int):Gc h { c with pc:=n }:=⟨g.giv,g.cau,g.locs,g.ok,g.len,g.me,g.mok⟩
theorem Gc.clr (g:Gc h c):Gc h c.clr:=⟨jx h,jx h,g.locs,g.ok,g.len,g.me,g.mok⟩
theorem Gc.rd (g:Gc h c) {a:Int} (ha:0<=a/\a<c.m.regs):jw h (c.rd a):=g.locs _ (bE (by have:=g.len;omega))
end
theorem yU (h:Hp) (e:Int):(h.fin e).thrown=h.thrown:=by unfold Hp.fin;split<;>rfl
theorem jE (h:Hp) (b:Bool):(h.must b).thrown=h.thrown:=by unfold Hp.must;split;rfl;exact yU h 6
theorem iP {b:Bool} (ho:(h.must b).over=false):b=true/\h.over=false:=by
 unfold Hp.must at ho;split at ho
 ·rename_i hb;exact ⟨hb,ho⟩
 ·unfold Hp.fin at ho;split at ho
  ·rename_i h1;rw [h1] at ho;cases ho
  ·simp at ho
section
variable {l:List Va}
theorem oH (h:iK l) (i:Nat) (v:Va) (h9:v.kind≠9) (h2:v.kind≠2):iK (l.set i v):=by
 have key:∀j,j<l.length->nth aE (l.set i v) j=v∨nth aE (l.set i v) j=nth aE l j:=fun j hj=>by
  by_cases e:i=j
  ·subst e;exact Or.inl (eZ hj)
  ·exact Or.inr (dY e)
 refine ⟨fun j hj hk=>?_,fun j hj hk=>?_⟩
 ·rw [List.length_set] at hj
  rcases key j hj with e|e
  ·rw [e] at hk;exact absurd hk h9
  ·rw [e] at hk;exact h.nine j hj hk
 ·rw [List.length_set] at hj ⊢
  rcases key j hj with e|e
  ·rw [e] at hk;exact absurd hk h2
  ·rw [e] at hk;exact h.two j hj hk
theorem yV (h:iK l) (a:Nat):iK (cI l a):=by
 have h0:(aE).kind≠9:=by decide
 have h1:(aE).kind≠2:=by decide
 unfold cI;split
 ·exact oH (oH h _ _ h0 h1) _ _ h0 h1
 ·split
  ·exact oH (oH h _ _ h0 h1) _ _ h0 h1
  ·exact oH h _ _ h0 h1
theorem FE (h:iK l) (a:Nat) (v:Va) (h9:v.kind≠9) (h2:v.kind=2->a+1<l.length):iK (eL l a v):=by
 unfold eL;split
 ·rename_i hk
  have hl:=h2 hk
  have h3:=yV (yV h a) (a+1)
  have hlen:(cI (cI l a) (a+1)).length=l.length:=by rw [fQ,fQ]
  generalize cI (cI l a) (a+1)=m at h3 hlen
  refine ⟨fun j hj Qg=>?_,fun j hj Qh=>?_⟩
  ·rw [List.length_set,List.length_set] at hj
   by_cases e:a=j
   ·subst e;rw [eZ (by rw [List.length_set];exact hj)] at Qg;exact absurd Qg h9
   ·rw [dY e] at Qg
    by_cases e2:a+1=j
    ·omega
    ·rw [dY e2] at Qg;exact h3.nine j hj Qg
  ·rw [List.length_set,List.length_set] at hj ⊢
   by_cases e:a=j
   ·omega
   ·rw [dY e] at Qh
    by_cases e2:a+1=j
    ·subst e2;rw [eZ hj] at Qh;exact absurd Qh (by decide)
    ·rw [dY e2] at Qh;exact h3.two j hj Qh
 ·rename_i hk
  exact oH (yV h a) a v h9 hk
theorem vg {a:Nat} {x:Va} (h:x∈cI l a):x=aE∨x∈l:=by
 unfold cI at h;split at h
 ·rcases eM h with h|h
  ·exact Or.inl h
  ·exact eM h
 ·split at h
  ·rcases eM h with h|h
   ·exact Or.inl h
   ·exact eM h
  ·exact eM h
end
theorem FG {l:List Va} (hl:∀x∈l,jw h x) (hv:jw h v) (a:Nat):∀x∈eL l a v,jw h x:=by
 intro x hx
 have h0:=jx h
 have h9:jw h ⟨9,0⟩:=⟨fun e=>absurd e (by decide),by unfold cJ;decide⟩
 unfold eL at hx;split at hx
 ·rcases eM hx with rfl|hx
  ·exact hv
  rcases eM hx with rfl|hx
  ·exact h9
  rcases vg hx with rfl|hx
  ·exact h0
  rcases vg hx with rfl|hx
  ·exact h0
  exact hl x hx
 ·rcases eM hx with rfl|hx
  ·exact hv
  rcases vg hx with rfl|hx
  ·exact h0
  exact hl x hx
theorem Gc.wr {c:aL} (g:Gc h c) {a:Int} (hv:h.stops=false->jw h v/\v.kind≠9/\(v.kind=2->a+1<c.m.regs)) (ha:0<=a):Gc h (mN h c a v):=by
 unfold mN;split
 ·exact g
 ·rename_i hs
  obtain ⟨h1,h2,h3⟩:=hv (by simpa using hs)
  refine ⟨g.giv,g.cau,FG g.locs h1 _,FE g.ok _ _ h2 (fun e=>by have:=h3 e;have:=g.len;omega),?_,g.me,g.mok⟩
  show ((eL c.locs a.toNat v).length:Int)=c.m.regs
  rw [fR];exact g.len
structure Safe (P:Hp->Prop):Prop where
 fin:∀(h:Hp) (e:Int),e=3∨e=4∨e=6->P h->P (h.fin e)
 obj:∀(h:Hp) (o:List Ob),P h->P { h with objs:=o }
 thr:∀(h:Hp) (t:Int),P h->P { h with thrown:=t }
 o:∀(h:Hp) (n:Int),P h->P { h with sh:={ h.sh with o:=h.sh.o++[n] } }
 use:∀(h:Hp),P h->P { h with sh:={ h.sh with used:=h.sh.used+1 } }
section
variable {P:Hp->Prop}
theorem Safe.must (S:Safe P) (hf:P h) (b:Bool):P (h.must b):=by
 unfold Hp.must
 split
 ·exact hf
 ·exact S.fin _ _ (by decide) hf
theorem Safe.new (S:Safe P) (hf:P h) (c:Int):P (h.new c):=by
 unfold Hp.new
 split
 ·exact S.fin _ _ (by decide) hf
 ·exact S.obj _ _ hf
theorem Safe.raise (S:Safe P) (hf:P h) (c:Int):P (h.raise c):=by
 unfold Hp.raise
 split
 ·exact S.new hf c
 ·exact S.thr _ _ (S.new hf c)
theorem Safe.throw (S:Safe P) (hf:P h) (v:Va):P (h.throw v):=by
 unfold Hp.throw
 split
 ·split
  ·exact S.raise hf 1
  ·exact S.thr _ _ hf
 ·exact S.must hf _
theorem Safe.findH (S:Safe P) (hf:P h) (r:Va) (c:Int):P (h.findH r c):=by
 unfold Hp.findH
 split
 ·split
  ·exact S.raise hf 1
  ·exact hf
 ·exact S.must hf _
theorem Safe.put (S:Safe P) (hf:P h) (r:Va) (c k:Int) (v:Va):P (h.put r c k v):=by
 unfold Hp.put
 split
 ·split
  ·exact S.findH hf r c
  ·exact S.obj _ _ (S.findH hf r c)
 ·exact S.must hf _
theorem Safe.cast (S:Safe P) (hf:P h) (v:Va) (c:Int):P (h.cast v c):=by
 unfold Hp.cast
 split
 ·split
  ·exact hf
  ·exact S.raise hf 3
 ·exact S.must hf _
theorem Safe.emit (S:Safe P) (hf:P h) (v:Va) (k:Int):P (h.emit v k):=by
 unfold Hp.emit
 split
 ·exact S.o _ _ hf
 ·exact S.must hf _
theorem Safe.input (S:Safe P) (hf:P h):P h.input':=by
 unfold Hp.input'
 split
 ·exact S.fin _ _ (by decide) hf
 ·exact S.use _ hf
theorem Safe.reckH (S:Safe P) (hf:P h) (a b:Va) (k op:Int):P (h.reckH a b k op):=by
 unfold Hp.reckH
 split
 ·split
  ·exact hf
  ·exact S.raise hf 2
 ·exact S.must hf _
theorem Safe.givesH (S:Safe P) (hf:P h) (c:aL) (i:In):P (givesH h c i):=by
 unfold Go.Proofs.YtgiiapenmjollaaGreat.givesH
 split
 ·exact hf
 split
 ·exact S.must hf _
 split
 ·exact S.reckH hf _ _ _ _
 split
 ·exact S.reckH hf _ _ _ _
 split
 ·exact S.must hf _
 split
 ·exact S.must hf _
 split
 ·exact S.must (S.must hf _) _
 split
 ·exact S.new hf _
 split
 ·split
  ·exact S.must hf _
  ·exact S.findH (S.must hf _) _ _
 split
 ·split
  ·exact S.must hf _
  ·exact S.must (S.must hf _) _
 ·exact S.input hf
theorem Safe.does (S:Safe P) (hf:P h) (c:aL) (i:In):P (bV h c i).h:=by
 have m:=fun b=>S.must hf b
 unfold bV
 split
 ·exact hf
 split
 ·exact m _
 split
 ·exact m _
 split
 ·unfold pQ;dsimp only;split
  ·exact S.must (m _) _
  ·exact S.put (S.must (m _) _) _ _ _ _
 split
 ·unfold wL;dsimp only;split
  ·exact m _
  ·exact S.cast (m _) _ _
 split
 ·exact m _
 split
 ·unfold Fk;dsimp only;split
  ·exact m _
  ·exact S.throw (m _) _
 split
 ·exact m _
 split
 ·unfold wM;dsimp only;split
  ·exact m _
  ·exact S.emit (m _) _ _
 ·exact S.givesH hf _ _
end
theorem Kj (c a:Int) (b:Nat) (w:World) (hc:κ w b 0 (ι c)) :
  χ 190 #[ι a,π b 0] w fun e w'=>e=.returned (.bool (kC c a))/\w'=w:=by
 by_cases h1:c=1
 ·subst h1
  rw [P9]
  go_enter func190,ntmps190
  go_wp2
  go_ret
  exact ⟨rfl,rfl⟩
 by_cases h2:c=2
 ·subst h2
  rw [Qc]
  go_enter func190,ntmps190
  go_wp2
  go_ret
  exact ⟨rfl,rfl⟩
 by_cases h3:c=3
 ·subst h3
  rw [Qd]
  go_enter func190,ntmps190
  go_wp2
  go_ret
  exact ⟨rfl,rfl⟩
 by_cases h4:c=4
 ·subst h4
  rw [Qe]
  go_enter func190,ntmps190
  go_wp2
  go_ret
  exact ⟨rfl,rfl⟩
 rw [Qf c a h1 h2 h3 h4]
 go_enter func190,ntmps190
 go_wp2
 go_ret
 exact ⟨rfl,rfl⟩
theorem aI (n lo hi:Int) (w:World) :
  χ 20 #[ι n,ι lo,ι hi] w fun e w'=>e=.returned (.bool (decide (lo<=n/\n<=hi)))/\w'=w:=by
 go_enter func20,ntmps20
 go_wp2
 all_goals
  go_ret
  refine ⟨ag ?_,rfl⟩
  rw [Bool.eq_iff_iff];simp;try omega
theorem gO (A:Option Addr) (c:Nat) (F:List Ty) (w:World) (hl:cX w A F) (hb:F.length<=1000000) :
  χ 22 #[.slice A F.length c] w fun e w'=>e=.returned (ι (cj F:Nat))/\w'=w:=by
 obtain ⟨hm,hl⟩:=hl
 clear hm
 have HS:Θ (∀k,k<F.length->cj (F.take (k+1))=cj (F.take k)+(if (nth bS F k).kind=2 then 2 else 1)):=po F
 have HB:Θ (∀k,cj (F.take k)<=2*k):=fun k=>by have:=oC (F.take k);have:=List.length_take_le k F;omega
 go_enter func22,ntmps22
 go_wp2
 go_loop [3,4] (fun n i=>∃k:Nat,k<=F.length/\i=ι k/\n=ι ((F.length:Int)+((cj (F.take k):Nat):Int)-k)) (fun _ i=>F.length-(intOf i).toNat)
 case atStart=>exact ⟨0,Nat.zero_le _,rfl,by simp [cj]⟩
 case round =>
  obtain ⟨k,hk,rfl,rfl⟩:=hrel
  have h2:=HB.o k
  by_cases hlt:k<F.length
  ·rcases hl with h0|⟨b,off,rfl,hcell⟩
   ·omega
   have ht:=(hcell k hlt).1
   have hs:=HS.o k hlt
   clear hcell
   by_cases nI:(nth bS F k).kind=2
   ·rw [if_pos nI] at hs
    rw [nI] at ht
    have Kk:Θ (cj (F.take (k+1))=cj (F.take k)+2):=hs
    clear hs nI
    go_wp2
    go_round
    case rel=>exact ⟨k+1,by omega,by go_num,by rw [Kk.o];go_num⟩
    case measure=>simp [intOf];omega
   ·rw [if_neg nI] at hs
    have Kk:Θ (cj (F.take (k+1))=cj (F.take k)+1):=hs
    have To:((nth bS F k).kind==2)=false:=by simpa using nI
    clear hs nI
    go_wp2
    go_round
    case rel=>exact ⟨k+1,by omega,by go_num,by rw [Kk.o];go_num⟩
    case measure=>simp [intOf];omega
  ·obtain rfl:k=F.length:=by omega
   rw [List.take_length] at *
   go_wp2
   go_ret
   exact ⟨lZ (by omega),rfl⟩
def jF (w:World) (b off:Nat) (m:Me) (P C K:Option Addr) (p c k:Nat):Prop :=
 w.cell? ⟨b,off,none⟩=some (.slice P m.params.length p)/\w.cell? ⟨b,off+1,none⟩=some (ι m.ret.kind)/\w.cell? ⟨b,off+2,none⟩=some (ι m.ret.cls)
  /\ w.cell? ⟨b,off+3,none⟩=some (ι m.stack)/\w.cell? ⟨b,off+4,none⟩=some (ι m.locs)/\w.cell? ⟨b,off+5,none⟩=some (ι m.regs)
  /\ w.cell? ⟨b,off+6,none⟩=some (.slice C m.code.length c)/\w.cell? ⟨b,off+7,none⟩=some (.slice K m.hands.length k)
theorem jF.bl (h:Bl w w') {b off:Nat} {m:Me} {P C K:Option Addr} {p c k:Nat} (hb:jF w b off m P C K p c k):jF w' b off m P C K p c k :=
 ⟨h.cell hb.1,h.cell hb.2.1,h.cell hb.2.2.1,h.cell hb.2.2.2.1,h.cell hb.2.2.2.2.1,h.cell hb.2.2.2.2.2.1,h.cell hb.2.2.2.2.2.2.1,h.cell hb.2.2.2.2.2.2.2⟩
abbrev sK (m:Me) (P C K:Option Addr) (p c k:Nat):Value :=
 .agg #[.slice P m.params.length p,ι m.ret.kind,ι m.ret.cls,ι m.stack,ι m.locs,ι m.regs,.slice C m.code.length c,.slice K m.hands.length k]
abbrev lr (nc nm:Nat) (A B:Option Addr) (a b:Nat):Value:=.agg #[.slice A nc a,.slice B nm b]
def fK (w:World) (b off:Nat) (nc nm:Nat) (A B:Option Addr) (x y:Nat):Prop :=
 w.cell? ⟨b,off,none⟩=some (.slice A nc x)/\w.cell? ⟨b,off+1,none⟩=some (.slice B nm y)
theorem fK.bl (h:Bl w w') {b off nc nm:Nat} {A B:Option Addr} {x y:Nat} (hb:fK w b off nc nm A B x y):fK w' b off nc nm A B x y:=⟨h.cell hb.1,h.cell hb.2⟩
theorem CM (w:World) (nc nm:Nat) (A B:Option Addr) (x y:Nat) (m:Me) (P C K:Option Addr) (p c k:Nat) (t t':TypeId) :
  fK ((w.alloc (.cells #[.slice A nc x,.slice B nm y] t)).alloc (.cells #[.slice P m.params.length p,ι m.ret.kind,ι m.ret.cls,ι m.stack,ι m.locs,ι m.regs,.slice C m.code.length c,.slice K m.hands.length k] t')) w.heap.size 0 nc nm A B x y
  /\ jF ((w.alloc (.cells #[.slice A nc x,.slice B nm y] t)).alloc (.cells #[.slice P m.params.length p,ι m.ret.kind,ι m.ret.cls,ι m.stack,ι m.locs,ι m.regs,.slice C m.code.length c,.slice K m.hands.length k] t')) (w.heap.size+1) 0 m P C K p c k:=by
 refine ⟨⟨?_,?_⟩,⟨?_,?_,?_,?_,?_,?_,?_,?_⟩⟩<;>simp
section
variable {nc:Nat} {m:Me} {most:Int}
theorem nJ (h:¬(m.params.length<=4/\m.hands.length<=8/\1<=m.code.length/\(m.code.length:Int)<=most)):dS nc m most=false:=by
 unfold dS;rw [decide_eq_false h];rfl
theorem FH {q:Nat} (hq:q<m.params.length) (h:fP nc (nth bS m.params q)=false):dS nc m most=false:=by
 unfold dS;rw [jA hq h];simp
theorem CN {q:Nat} (hq:q<m.hands.length) (h:nk nc m.code.length (nth eK m.hands q)=false):dS nc m most=false:=by
 unfold dS;rw [jA hq h];simp
theorem CO (h:m.params.length<=4/\m.hands.length<=8/\1<=m.code.length/\(m.code.length:Int)<=most) (hp:∀q,q<m.params.length->fP nc (nth bS m.params q)=true) (hh:∀q,q<m.hands.length->nk nc m.code.length (nth eK m.hands q)=true):dS nc m most=mn nc m.ret:=by
 unfold dS;rw [decide_eq_true h,iq hp,iq hh];simp
end
theorem iX (nc nm:Nat) (A B:Option Addr) (a b:Nat) (m:Me) (P C K:Option Addr) (p c k:Nat) (most:Int) (w:World) (hP:cX w P m.params) (hK:kR w K m.hands) (mE:nc<=12) (eG:m.code.length<=maxLen) :
  χ 21 #[lr nc nm A B a b,sK m P C K p c k,ι most] w fun e w'=>e=.returned (.bool (dS nc m most))/\Bl w w':=by
 have HP:Θ (cX w P m.params):=hP
 have HK:Θ (kR w K m.hands):=hK
 have CP:=hP.1
 have PE:=hK.1
 unfold maxLen at eG CP PE
 clear hP hK
 by_cases h1:4<m.params.length
 ·have hb:=nJ (nc:=nc) (m:=m) (most:=most) (by omega)
  rw [hb]
  go_enter func21,ntmps21
  go_wp2
  go_ret
  exact ⟨rfl,((Bl.refl _).alloc _).alloc _⟩
 by_cases h2:8<m.hands.length
 ·have hb:=nJ (nc:=nc) (m:=m) (most:=most) (by omega)
  rw [hb]
  go_enter func21,ntmps21
  go_wp2
  go_ret
  exact ⟨rfl,((Bl.refl _).alloc _).alloc _⟩
 by_cases h3:1<=(m.code.length:Int)/\(m.code.length:Int)<=most
 ·have HG:Θ ((∀q,q<m.params.length->fP nc (nth bS m.params q)=true)->(∀q,q<m.hands.length->nk nc m.code.length (nth eK m.hands q)=true)->dS nc m most=mn nc m.ret):=CO (by omega)
  have Tp:decide (1<=(m.code.length:Int)/\(m.code.length:Int)<=most)=true:=decide_eq_true h3
  obtain ⟨f0,m0⟩:=CM w nc nm A B a b m P C K p c k 25 49
  have HF:Θ (fK _ w.heap.size 0 nc nm A B a b):=f0
  have HM:Θ (jF _ (w.heap.size+1) 0 m P C K p c k):=m0
  clear f0 m0
  go_enter func21,ntmps21
  go_wp2_with (go_at_call 20;refine (aI _ _ _ _).mono ?_;rintro e w' ⟨he,rfl⟩;rw [Tp] at he;subst he)
  go_loopw [7] (fun i wr=>∃q:Nat,q<=m.params.length/\i=ι q/\Θ (∀j,j<q->fP nc (nth bS m.params j)=true)/\Θ (Bl w wr)/\Θ (fK wr w.heap.size 0 nc nm A B a b)/\Θ (jF wr (w.heap.size+1) 0 m P C K p c k)) (fun i _=>m.params.length-(intOf i).toNat)
  case atStart=>exact ⟨0,Nat.zero_le _,rfl,fun j hj=>absurd hj (Nat.not_lt_zero _),((Bl.refl _).alloc _).alloc _,HF,HM⟩
  case round =>
   clear HF HM
   obtain ⟨q,hq,rfl,lq,hg,HF,HM⟩:=hrel
   have MJ:=HF.o.1
   have VO:=HM.o.1
   have Qi:=HM.o.2.2.2.2.2.2.2
   simp only [Nat.zero_add] at Qi
   by_cases dI:q<m.params.length
   ·have hty:=HP.o.bl hg.o
    rcases hty.2 with h0|⟨b',iO,rfl,hcell⟩
    ·omega
    obtain ⟨MD,P6,-,-⟩:=hcell q dI
    clear hty hcell
    have gf:=aj MJ
    have gm:=aj VO
    have g1:=aj MD
    have g2:=aj P6
    clear Qi
    cases hT:fP nc (nth bS m.params q)
    ·have Ny:fP nc ⟨(nth bS m.params q).kind,(nth bS m.params q).cls⟩=false:=hT
     have HB:=FH (most:=most) dI hT
     clear hT HG
     go_wp2
     refine az (by kernel_rfl) (by kernel_rfl) fun hne=>?_
     repeat (go_big_quiet_step ((go_at_call 49;exact Calls.fut_eq _ (iW _ _ _ _ _ _) (congrArg Value.bool Ny))))
     refine wpQuiet_nil ?_
     rintro _ ⟨⟨w2,bX⟩,rfl⟩
     go_wp2
     go_ret
     exact ⟨ag HB.symm,hg.o.trans bX⟩
    ·have Ny:fP nc ⟨(nth bS m.params q).kind,(nth bS m.params q).cls⟩=true:=hT
     have HT:Θ (fP nc (nth bS m.params q)=true):=hT
     clear hT HG
     go_wp2
     refine az (by kernel_rfl) (by kernel_rfl) fun hne=>?_
     repeat (go_big_quiet_step ((go_at_call 49;exact Calls.fut_eq _ (iW _ _ _ _ _ _) (congrArg Value.bool Ny))))
     refine wpQuiet_nil ?_
     rintro _ ⟨⟨w2,bX⟩,rfl⟩
     go_wp2
     go_roundw
     case rel=>exact ⟨q+1,by omega,by go_num,fun j hj=>if h:j<q then lq.o j h else by have:j=q:=(by omega);subst this;exact HT.o,hg.o.trans bX,HF.o.bl bX,HM.o.bl bX⟩
     case measure=>simp [intOf];omega
   ·obtain rfl:q=m.params.length:=by omega
    have VP:Θ ((∀q,q<m.hands.length->nk nc m.code.length (nth eK m.hands q)=true)->dS nc m most=mn nc m.ret):=HG.o lq.o
    clear HG lq dI hq
    go_wp2
    clear MJ VO Qi
    go_loopw [8] (fun i wr=>∃q:Nat,q<=m.hands.length/\i=ι q/\Θ (∀j,j<q->nk nc m.code.length (nth eK m.hands j)=true)/\Θ (Bl w wr)/\Θ (fK wr w.heap.size 0 nc nm A B a b)/\Θ (jF wr (w.heap.size+1) 0 m P C K p c k)) (fun i _=>m.hands.length-(intOf i).toNat)
    case atStart=>exact ⟨0,Nat.zero_le _,rfl,fun j hj=>absurd hj (Nat.not_lt_zero _),hg,HF,HM⟩
    case round =>
     clear HF HM hg
     obtain ⟨q,hq,rfl,lq,hg,HF,HM⟩:=hrel
     have MJ:=HF.o.1
     have FI:=HM.o.2.1
     have EZ:=HM.o.2.2.1
     have Sg:=HM.o.2.2.2.2.2.2.1
     have Qi:=HM.o.2.2.2.2.2.2.2
     simp only [Nat.zero_add] at FI EZ Sg Qi
     by_cases dI:q<m.hands.length
     ·have hty:=HK.o.bl hg.o
      rcases hty.2 with h0|⟨b',iO,rfl,hcell⟩
      ·omega
      obtain ⟨g0,g1,g2,g3,-⟩:=hcell q dI
      clear hty hcell FI EZ
      have HB:Θ (nk nc m.code.length (nth eK m.hands q)=false->dS nc m most=false):=CN dI
      have HD:Θ (nk nc m.code.length (nth eK m.hands q)=decide (0<=(nth eK m.hands q).fr/\(nth eK m.hands q).fr<(nth eK m.hands q).til/\(nth eK m.hands q).til<=m.code.length/\0<=(nth eK m.hands q).pc/\(nth eK m.hands q).pc<m.code.length/\0<=(nth eK m.hands q).cls/\(nth eK m.hands q).cls<nc)):=rfl
      generalize hX:nth eK m.hands q=X at *
      have X9:∀o,(wr.alloc o).cell? ⟨w.heap.size,0,none⟩=some (.slice A nc a):=fun o=>((Bl.refl wr).alloc o).cell MJ
      have qm6:∀o,(wr.alloc o).cell? ⟨w.heap.size+1,6,none⟩=some (.slice C m.code.length c):=fun o=>((Bl.refl wr).alloc o).cell Sg
      by_cases t1:X.fr<0
      ·have yW:Θ (dS nc m most=false):=HB.o (HD.o.trans (decide_eq_false (by omega)))
       go_wp2
       go_ret
       exact ⟨ag yW.o.symm,hg.o.alloc _⟩
      by_cases t2:X.til<=X.fr
      ·have yW:Θ (dS nc m most=false):=HB.o (HD.o.trans (decide_eq_false (by omega)))
       go_wp2
       go_ret
       exact ⟨ag yW.o.symm,hg.o.alloc _⟩
      by_cases t3:(m.code.length:Int)<X.til
      ·have yW:Θ (dS nc m most=false):=HB.o (HD.o.trans (decide_eq_false (by omega)))
       go_wp2
       go_ret
       exact ⟨ag yW.o.symm,hg.o.alloc _⟩
      by_cases t4:0<=X.pc/\X.pc<=(m.code.length:Int)-1
      ·have d4:decide (0<=X.pc/\X.pc<=(m.code.length:Int)-1)=true:=decide_eq_true t4
       by_cases t5:0<=X.cls/\X.cls<=(nc:Int)-1
       ·have d5:decide (0<=X.cls/\X.cls<=(nc:Int)-1)=true:=decide_eq_true t5
        have HT:Θ (nk nc m.code.length X=true):=HD.o.trans (decide_eq_true (by omega))
        go_wp2_with (go_at_call 20;refine (aI _ _ _ _).mono ?_;rintro e w' ⟨he,rfl⟩;(first|rw [d4] at he|rw [d5] at he);subst he)
        go_roundw
        case rel=>exact ⟨q+1,by omega,by go_num,fun j hj=>if h:j<q then lq.o j h else by have:j=q:=(by omega);subst this;rw [hX];exact HT.o,hg.o.alloc _,HF.o.bl ((Bl.refl _).alloc _),HM.o.bl ((Bl.refl _).alloc _)⟩
        case measure=>simp [intOf];omega
       ·have d5:decide (0<=X.cls/\X.cls<=(nc:Int)-1)=false:=decide_eq_false t5
        have yW:Θ (dS nc m most=false):=HB.o (HD.o.trans (decide_eq_false (by omega)))
        go_wp2_with (go_at_call 20;refine (aI _ _ _ _).mono ?_;rintro e w' ⟨he,rfl⟩;(first|rw [d4] at he|rw [d5] at he);subst he)
        go_ret
        exact ⟨ag yW.o.symm,hg.o.alloc _⟩
      ·have d4:decide (0<=X.pc/\X.pc<=(m.code.length:Int)-1)=false:=decide_eq_false t4
       have yW:Θ (dS nc m most=false):=HB.o (HD.o.trans (decide_eq_false (by omega)))
       go_wp2_with (go_at_call 20;refine (aI _ _ _ _).mono ?_;rintro e w' ⟨he,rfl⟩;rw [d4] at he;subst he)
       go_ret
       exact ⟨ag yW.o.symm,hg.o.alloc _⟩
     ·obtain rfl:q=m.hands.length:=by omega
      have Tq:Θ (dS nc m most=(decide (m.ret.kind=0/\m.ret.cls=0)||fP nc ⟨m.ret.kind,m.ret.cls⟩)):=VP.o lq.o
      clear VP lq dI hq
      by_cases t1:m.ret.kind=0
      ·by_cases t2:m.ret.cls=0
       ·have yW:dS nc m most=true:=Tq.o.trans (by rw [decide_eq_true ⟨t1,t2⟩];rfl)
        rw [t1] at FI
        rw [t2] at EZ
        clear t1 t2
        go_wp2
        go_ret
        exact ⟨ag yW.symm,hg.o⟩
       ·have yW:Θ (dS nc m most=fP nc ⟨m.ret.kind,m.ret.cls⟩):=Tq.o.trans (by rw [decide_eq_false (by omega)];rfl)
        have t2':(m.ret.cls==0)=false:=by simpa using t2
        have tl:Θ (m.ret.kind=0):=t1
        rw [t1] at FI
        clear t1 t2
        go_wp2_with (go_at_call 49;refine (iW _ _ _ _ _ _).mono ?_;rintro e w' ⟨rfl,eF⟩)
        go_ret
        exact ⟨ag (by rw [yW.o,tl.o]),hg.o.trans eF⟩
      ·have yW:Θ (dS nc m most=fP nc ⟨m.ret.kind,m.ret.cls⟩):=Tq.o.trans (by rw [decide_eq_false (by omega)];rfl)
       have t1':(m.ret.kind==0)=false:=by simpa using t1
       clear t1
       go_wp2_with (go_at_call 49;refine (iW _ _ _ _ _ _).mono ?_;rintro e w' ⟨rfl,eF⟩)
       go_ret
       exact ⟨ag yW.o.symm,hg.o.trans eF⟩
 ·have hb:=nJ (nc:=nc) (m:=m) (most:=most) (by omega)
  rw [hb]
  have Tp:decide (1<=(m.code.length:Int)/\(m.code.length:Int)<=most)=false:=decide_eq_false h3
  go_enter func21,ntmps21
  go_wp2_with (go_at_call 20;refine (aI _ _ _ _).mono ?_;rintro e w' ⟨he,rfl⟩;rw [Tp] at he;subst he)
  go_ret
  exact ⟨rfl,((Bl.refl _).alloc _).alloc _⟩
theorem yX {B:Option Addr} {l:List Me} (h:cz w B l):∀m∈l,∀i∈m.code,i.ok:=by
 intro m hm i hi
 obtain ⟨j,hj,rfl⟩:=List.getElem_of_mem hm
 rcases h.2 with h0|⟨mb,mo,-,hcell⟩
 ·omega
 obtain ⟨P,C,J,p,c,k,-,-,-,-,-,-,-,-,hme⟩:=hcell j hj
 rw [cg hj] at hme
 obtain ⟨q,hq,rfl⟩:=List.getElem_of_mem hi
 rcases hme.2.1.2 with h0|⟨xb,xo,-,hc⟩
 ·omega
 ·have:=(hc q hq).2.2.2.2.2.1
  rw [cg hq] at this
  exact this
theorem qe {I:Option Addr} (h:aU w I l):∀n∈l,cJ n:=by
 intro n hn
 obtain ⟨j,hj,rfl⟩:=List.getElem_of_mem hn
 rcases h.2 with h0|⟨b,off,-,hc⟩
 ·omega
 ·have:=(hc j hj).2
  rw [cg hj] at this
  exact this
def nK (w:World) (A:Option Addr) (l:List Int):Prop :=
 l.length<=maxLen/\(l.length=0∨∃b off,A=some ⟨b,off,none⟩/\∀i,i<l.length->w.cell? ⟨b,off+i,none⟩=some (ι (nth (0:Int) l i)))
theorem nK.bl {A:Option Addr} (h:nK w A l) (hb:Bl w w'):nK w' A l:=by
 refine ⟨h.1,?_⟩
 rcases h.2 with h0|⟨b,off,e,hc⟩
 ·exact Or.inl h0
 ·exact Or.inr ⟨b,off,e,fun i hi=>hb.cell (hc i hi)⟩
theorem FJ {base:Nat} {v:Value} (h:w.ownsRow base 2 1 v l.length (l.map (Value.int .i64))):∃A cap,v=.slice A l.length cap/\nK w A l:=by
 rcases h.2 with ⟨h1,h0⟩|⟨gb,cap,cur,rfl,h2,h3,h4,h5,h6,h7⟩
 ·exact ⟨none,0,by rw [h1,h0],by unfold maxLen;omega,Or.inl h0⟩
 ·refine ⟨_,cap,rfl,by omega,Or.inr ⟨gb,0,rfl,fun i hi=>?_⟩⟩
  rw [ab h3]
  have h8:(cur.toList.take (l.length*1))[i]?=(l.map (Value.int .i64))[i]?:=by rw [h7]
  rw [List.getElem?_take,if_pos (by omega)] at h8
  rw [Nat.zero_add,<-Array.getElem?_toList,h8,List.getElem?_map,List.getElem?_eq_getElem hi,cg hi]
  rfl
theorem yY (A B:Option Addr) (a b:Nat) (l:List Int) (w:World) (hA:nK w A l) (hB:nK w B l) :
  χ 24 #[.slice A l.length a,.slice B l.length b] w fun e w'=>e=.returned (.bool true)/\Bl w w':=by
 have HA:=ae hA
 have HB:=ae hB
 have hm:=hA.1
 unfold maxLen at hm
 clear hA hB
 go_enter func24,ntmps24
 go_wp2
 go_loopw [5] (fun i wr=>∃q:Nat,q<=l.length/\i=ι q/\Θ (Bl w wr)) (fun i _=>l.length-(intOf i).toNat)
 case atStart=>exact ⟨0,Nat.zero_le _,rfl,Bl.refl _⟩
 case round =>
  obtain ⟨q,hq,rfl,hg⟩:=hrel
  by_cases dI:q<l.length
  ·rcases (HA.o.bl hg.o).2 with z0|⟨b1,o1,rfl,c1⟩
   ·omega
   rcases (HB.o.bl hg.o).2 with z0|⟨b2,o2,rfl,c2⟩
   ·omega
   have x1:=c1 q dI
   have x2:=c2 q dI
   clear c1 c2
   go_wp2
   go_quiet (fail)
   go_wp2
   go_roundw
   case rel=>exact ⟨q+1,by omega,by go_num,aR hg.o _⟩
   case measure=>simp [intOf];omega
  ·obtain rfl:q=l.length:=by omega
   go_wp2
   go_ret
   exact ⟨rfl,hg.o⟩
theorem qQ (p v c u s:Int) (A B:Option Addr) (a b:Nat) (l:List Int) (w:World) (hA:nK w A l) (hB:nK w B l) :
  χ 9 #[.agg #[ι p,ι v,ι c,.slice A l.length a,ι u,ι s],.agg #[ι p,ι v,ι c,.slice B l.length b,ι u,ι s]] w fun e w'=>e=.returned (.bool true)/\Bl w w':=by
 have HL:Θ (∀w',Bl w w'->χ 24 #[.slice A l.length a,.slice B l.length b] w' fun e w2=>e=.returned (.bool true)/\Bl w' w2):=fun w' hb=>yY A B a b l w' (hA.bl hb) (hB.bl hb)
 have HW:Θ (∀x y,Bl w ((w.alloc x).alloc y)):=fun _ _=>((Bl.refl w).alloc _).alloc _
 clear hA hB
 go_enter func9,ntmps9
 go_wp2_with (go_at_call 24;refine (HL.o _ (HW.o _ _)).mono ?_;rintro e w1 ⟨rfl,b1⟩;replace b1:=ae b1)
 go_ret
 exact ⟨rfl,(HW.o _ _).trans b1.o⟩
end Go.Proofs.YtgiiapenmjollaaGreat
