import Derived.Test.YtgiiapenmjollabGreatRsaa
import Derived.WalkKit
import Derived.RowKit3
import Derived.Below
import Derived.OwnWalk
import Derived.Laws.OwnMore
import Derived.Deep.Draws
import Derived.Deep.AppendLies
import Derived.BigQuiet
import Derived.Test.YtgiiapenmjollabGreatChecked
import Derived.Deep.RegionHeld3
import Derived.Handy
namespace Go.Proofs.YtgiiapenmjollabGreat
set_option linter.all false
set_option maxHeartbeats 40000000
set_option maxRecDepth 100000
open Go.RowKit
theorem lt_some {w:World} {b:Nat} {o:Obj} (h:w.heap[b]?=some o):b<w.heap.size:=by
 by_cases hb:b<w.heap.size
 ·exact hb
 ·simp [hb] at h
theorem block_set {w:World} {b i:Nat} {cs:Array Value} {t:TypeId} {f:Nat×Nat} (h:w.heap[b]?=some (.cells cs t f)) (v:Value) :
  (w.setCell ⟨b,i,none⟩ v).heap[b]?=some (.cells (cs.setIfInBounds i v) t f):=by
 simp [World.setCell,Array.getElem?_modify,h]
theorem block_far {w:World} {b b' i:Nat} {s:Option _} (hb:b'≠b) (v:Value):(w.setCell ⟨b,i,s⟩ v).heap[b']?=w.heap[b']?:=Below.heap_setCell _ _ _ _ hb
theorem cell_blk {w:World} {b i:Nat} {cs:Array Value} {t:TypeId} {f:Nat×Nat} (h:w.heap[b]?=some (.cells cs t f)):w.cell? ⟨b,i,none⟩=cs[i]?:=by simp [World.cell?,h]
theorem free_blk {w:World} {b:Nat} {cs:Array Value} {t:TypeId} (h:w.heap[b]?=some (.cells cs t (0,0))) (i:Nat):w.frozen? ⟨b,i,none⟩=false:=by simp [World.frozen?,h]
theorem row_far {w:World} {base:Nat} {e:TypeId} {size n:Nat} {v:Value} {xs:List Value} (ho:w.ownsRow base e size v n xs) {b i:Nat} {cs:Array Value} {t:TypeId} {f:Nat×Nat} (hb:w.heap[b]?=some (.cells cs t f)) (ht:t≠e) (u:Value) :
  (w.setCell ⟨b,i,none⟩ u).ownsRow base e size v n xs:=by
 refine ⟨ho.1,?_⟩
 rcases ho.2 with h0|⟨g,cap,cur,h1,h2,h3,h4⟩
 ·exact Or.inl h0
 ·refine Or.inr ⟨g,cap,cur,h1,h2,?_,h4⟩
  rw [block_far]
  ·exact h3
  ·rintro rfl;rw [hb] at h3;simp at h3;exact ht h3.2.1
theorem blk_new (w:World) (cs:Array Value) (t:TypeId):(w.alloc (.cells cs t)).heap[w.heap.size]?=some (.cells cs t (0,0)):=by
 show (w.heap.push _)[w.heap.size]?=_
 simp
theorem bl_drewN {a w:World} (h:Bl a w) (n:Nat):Bl a (w.drewN n):=⟨h.os,h.tape,h.output,h.size,h.block⟩
theorem grown_keep {w w':World} {base:Nat} {e:TypeId} {size n:Nat} {v:Value} {xs:List Value} (hg:w.grownBy w' v.ownBlock) (ho:w.ownsRow base e size v n xs) {b:Nat} {cs:Array Value} {t:TypeId} {f:Nat×Nat}
  (hb:w.heap[b]?=some (.cells cs t f)) (ht:t≠e):w'.heap[b]?=some (.cells cs t f):=by
 rw [hg.block b (lt_some hb)]
 ·exact hb
 ·intro hc
  rcases ho.2 with ⟨rfl,-⟩|⟨gb,cap,cur,rfl,h2,h3,h4⟩
  ·simp [Value.ownBlock] at hc
  ·simp [Value.ownBlock] at hc
   subst hc
   rw [hb] at h3
   simp at h3
   exact ht h3.2.1
theorem grown_row {w w':World} {base:Nat} {e:TypeId} {size n:Nat} {v:Value} {xs:List Value} (hg:w.grownBy w' v.ownBlock) (ho:w.ownsRow base e size v n xs) {base':Nat} {e':TypeId} {size' n':Nat} {v':Value} {xs':List Value}
  (hr:w.ownsRow base' e' size' v' n' xs') (ht:e'≠e):w'.ownsRow base' e' size' v' n' xs':=by
 refine ⟨hr.1,?_⟩
 rcases hr.2 with h0|⟨gb,cap,cur,h1,h2,h3,h4⟩
 ·exact Or.inl h0
 ·exact Or.inr ⟨gb,cap,cur,h1,h2,grown_keep hg ho h3 ht,h4⟩
theorem grown_base {w w':World} {base:Nat} {e:TypeId} {size n:Nat} {v:Value} {xs:List Value} (hg:w.grownBy w' v.ownBlock) (ho:w.ownsRow base e size v n xs) (hb:base≤w.heap.size):Below base w w' :=
 (Below.refl base w).grown hg hb fun k hk=>(ho.lt k hk).1
theorem own_far {w:World} {base:Nat} {e:TypeId} {size n:Nat} {v:Value} {xs:List Value} (ho:w.ownsRow base e size v n xs) {b:Nat} {cs:Array Value} {t:TypeId} {f:Nat×Nat} (hb:w.heap[b]?=some (.cells cs t f)) (ht:t≠e):v.ownBlock≠some b:=by
 intro hc
 rcases ho.2 with ⟨rfl,-⟩|⟨gb,cap,cur,rfl,h2,h3,h4⟩
 ·simp [Value.ownBlock] at hc
 ·simp [Value.ownBlock] at hc
  subst hc
  rw [hb] at h3
  simp at h3
  exact ht h3.2.1
def vaCells:List Va→List Value
 | []=>[]
 | v::l=>.int .i64 v.kind::.int .i64 v.n::vaCells l
theorem vaCells_length (l:List Va):(vaCells l).length=l.length*2:=by
 induction l with
 | nil=>rfl
 | cons x l ih=>simp [vaCells,ih];omega
theorem va_cells:∀(l:List Va) (i:Nat),i<l.length→(vaCells l)[i*2]?=some (.int .i64 (nth va0 l i).kind)∧(vaCells l)[i*2+1]?=some (.int .i64 (nth va0 l i).n)
 | [],i,h=>by simp at h
 | x::l,0,_=>by simp [vaCells,nth]
 | x::l,i+1,h=>by
  have:=va_cells l i (by simpa using h)
  have e:(i+1)*2=i*2+1+1:=by omega
  rw [e]
  simpa [vaCells,nth] using this
theorem vaCells_set:∀(l:List Va) (i:Nat) (v:Va),i<l.length→vaCells (l.set i v)=((vaCells l).set (i*2) (.int .i64 v.kind)).set (i*2+1) (.int .i64 v.n)
 | [],i,v,h=>by simp at h
 | x::l,0,v,_=>by simp [vaCells]
 | x::l,i+1,v,h=>by
  have:=vaCells_set l i v (by simpa using h)
  have e1:(i+1)*2=i*2+1+1:=by omega
  have e2:(i+1)*2+1=i*2+1+1+1:=by omega
  rw [e2,e1]
  simp [vaCells,this]
theorem vaCells_one:∀(l:List Va) (u:Value),u∈vaCells l→u.oneCell'=true
 | [],u,h=>by simp [vaCells] at h
 | x::l,u,h=>by
  simp only [vaCells,List.mem_cons] at h
  rcases h with rfl|rfl|h
  ·rfl
  ·rfl
  ·exact vaCells_one l u h
theorem vaCells_append (l k:List Va):vaCells (l++k)=vaCells l++vaCells k:=by
 induction l with
 | nil=>rfl
 | cons x l ih=>simp [vaCells,ih]
theorem hid {p:Prop} (h:p):Hid p:=h
theorem bl_blk {w w':World} (h:Bl w w') {b:Nat} {o:Obj} (hb:w.heap[b]?=some o):w'.heap[b]?=some o:=(h.block b (lt_some hb)).trans hb
theorem c0_of {w:World} {b:Nat} {k n:Value} {t:TypeId} (q:w.heap[b]?=some (.cells #[k,n] t (0,0))):w.cell? ⟨b,0,none⟩=some k:=by rw [cell_blk q];rfl
theorem c1_of {w:World} {b:Nat} {k n:Value} {t:TypeId} (q:w.heap[b]?=some (.cells #[k,n] t (0,0))):w.cell? ⟨b,1,none⟩=some n:=by rw [cell_blk q];rfl
theorem set_two {w:World} {b:Nat} {k n k' n':Value} {t:TypeId} (q:w.heap[b]?=some (.cells #[k,n] t (0,0))):((w.setCell ⟨b,0,none⟩ k').setCell ⟨b,1,none⟩ n').heap[b]?=some (.cells #[k',n'] t (0,0)):=by
 rw [block_set (block_set q _) _];rfl
theorem bl_two {w0 w:World} (h:Bl w0 w) {b:Nat} (hb:w0.heap.size≤b) (k n:Value):Bl w0 ((w.setCell ⟨b,0,none⟩ k).setCell ⟨b,1,none⟩ n):=(h.setCell (p:=⟨b,0,none⟩) hb k).setCell (p:=⟨b,1,none⟩) hb n
theorem grown_set {w:World} (b i:Nat) (v:Value):w.grownBy (w.setCell ⟨b,i,none⟩ v) (some b) :=
 ⟨rfl,rfl,rfl,by simp [World.setCell],fun k hk hb=>block_far (fun e=>hb (by rw [e])) v⟩
theorem grown_trans {x y z:World} {row:Option Nat} (h:x.grownBy y row) (k:y.grownBy z row):x.grownBy z row :=
 ⟨k.os.trans h.os,k.tape.trans h.tape,k.output.trans h.output,Nat.le_trans h.size k.size,fun i hi hb=>(k.block i (Nat.lt_of_lt_of_le hi h.size) hb).trans (h.block i hi hb)⟩
def reckB (k op:Int) (a b:Va):Bool:=if k=1 then lngB op (wrap32 b.n) else lngB op b.n
def reckN (k op:Int) (a b:Va):Int:=if k=1 then wrap32 (lngV op (wrap32 a.n) (wrap32 b.n)) else lngV op a.n b.n
def Hp.reckH (h:Hp) (a b:Va) (k op:Int):Hp:=if h.mustB (ofBoth a b k)=true then (if reckB k op a b=true then h else h.raise 2) else h.must (ofBoth a b k)
def Hp.reckV (h:Hp) (a b:Va) (k op:Int):Va:=if h.mustB (ofBoth a b k)=true then ⟨k,reckN k op a b⟩ else va0
def Hp.fits (h:Hp) (x:Hd) (pc:Int):Bool:=decide (x.fr≤pc)&&(decide (pc<x.til)&&belI h.file.classes (h.obj h.thrown).cls x.cls)
def Hp.caughtL (h:Hp) (pc:Int):List Hd→Int
 | []=>-1
 | x::l=>if h.fits x pc=true then x.pc else h.caughtL pc l
theorem caught_skip {h:Hp} {pc:Int} {l:List Hd} {q:Nat} (hq:q<l.length) (hx:h.fits (nth hd0 l q) pc=false):h.caughtL pc (l.drop q)=h.caughtL pc (l.drop (q+1)):=by
 rw [List.drop_eq_getElem_cons hq,Hp.caughtL,←nth_get (d:=hd0) hq,if_neg (by rw [hx];decide)]
theorem caught_hit {h:Hp} {pc:Int} {l:List Hd} {q:Nat} (hq:q<l.length) (hx:h.fits (nth hd0 l q) pc=true):h.caughtL pc (l.drop q)=(nth hd0 l q).pc:=by
 rw [List.drop_eq_getElem_cons hq,Hp.caughtL,←nth_get (d:=hd0) hq,if_pos hx]
structure LocOk (l:List Va):Prop where
 nine:∀i,i<l.length→(nth va0 l i).kind=9→1≤i
 two:∀i,i<l.length→(nth va0 l i).kind=2→i+1<l.length
structure Cal where
 m:Me
 locs:List Va
 giv:Va
 cau:Va
 pc:Int
def Cal.rd (c:Cal) (a:Int):Va:=nth va0 c.locs a.toNat
def Hp.rdH (h:Hp) (c:Cal) (a k:Int):Hp:=h.must (decide ((c.rd a).kind=k))
def wrP (h:Hp) (c:Cal) (a:Int) (v:Va):Cal:=if h.stops=true then c else { c with locs:=stoP c.locs a.toNat v }
def Cal.clr (c:Cal):Cal:={ c with giv:=va0,cau:=va0 }
def givesH (h:Hp) (c:Cal) (i:In):Hp :=
 if i.op=1∨i.op=2∨i.op=3 then h
 else if i.op=4 then h.rdH c i.b i.c
 else if i.op=5 then h.reckH (c.rd i.b) (c.rd i.c) 1 i.n
 else if i.op=6 then h.reckH (c.rd i.b) (c.rd i.c) 2 i.n
 else if i.op=7 then h.rdH c i.b 1
 else if i.op=8 then h.rdH c i.b 2
 else if i.op=9 then (h.rdH c i.b 2).rdH c i.c 2
 else if i.op=13 then h.new i.b
 else if i.op=14 then (if (h.rdH c i.b 3).over=true then h.rdH c i.b 3 else (h.rdH c i.b 3).findH (c.rd i.b) i.c)
 else if i.op=17 then (if (h.rdH c i.b 3).over=true then h.rdH c i.b 3 else (h.rdH c i.b 3).must (isRef (c.rd i.b)))
 else h.input'
def givesV (h:Hp) (c:Cal) (i:In):Va :=
 if i.op=1 then ⟨1,i.n⟩
 else if i.op=2 then ⟨2,i.n⟩
 else if i.op=3 then ⟨3,-1⟩
 else if i.op=4 then c.rd i.b
 else if i.op=5 then h.reckV (c.rd i.b) (c.rd i.c) 1 i.n
 else if i.op=6 then h.reckV (c.rd i.b) (c.rd i.c) 2 i.n
 else if i.op=7 then ⟨2,(c.rd i.b).n⟩
 else if i.op=8 then ⟨1,wrap32 (c.rd i.b).n⟩
 else if i.op=9 then ⟨1,cmpV (c.rd i.b).n (c.rd i.c).n⟩
 else if i.op=13 then h.newV
 else if i.op=14 then (if (h.rdH c i.b 3).over=true then va0 else (h.rdH c i.b 3).getV (c.rd i.b) i.c i.n)
 else if i.op=17 then (if (h.rdH c i.b 3).over=true then va0 else (h.rdH c i.b 3).isV (c.rd i.b) i.c)
 else h.inV
structure Did where
 h:Hp
 c:Cal
 nx:Int
def givesP (h:Hp) (c:Cal) (i:In):Did:=⟨givesH h c i,wrP (givesH h c i) c.clr i.a (givesV h c i),c.pc+1⟩
def ifP (h:Hp) (c:Cal) (i:In):Did:=⟨h.rdH c i.c 1,c.clr,if hldB i.b (c.rd i.c).n=true then i.a else c.pc+1⟩
def ifnP (h:Hp) (c:Cal) (i:In):Did:=⟨h.rdH c i.c 3,c.clr,if (c.rd i.c).n<0 then i.a else c.pc+1⟩
def thrP (h:Hp) (c:Cal) (i:In):Did:=⟨if (h.rdH c i.a 3).over=true then h.rdH c i.a 3 else (h.rdH c i.a 3).throw (c.rd i.a),c.clr,c.pc+1⟩
def putP (h:Hp) (c:Cal) (i:In):Did :=
 let h2:=(h.rdH c i.b 3).rdH c i.a (fieldT h.file.classes i.c i.n).kind
 ⟨if h2.over=true then h2 else h2.put (c.rd i.b) i.c i.n (c.rd i.a),c.clr,c.pc+1⟩
def castP (h:Hp) (c:Cal) (i:In):Did:=⟨if (h.rdH c i.a 3).over=true then h.rdH c i.a 3 else (h.rdH c i.a 3).cast (c.rd i.a) i.b,c.clr,c.pc+1⟩
def emitP (h:Hp) (c:Cal) (i:In):Did:=⟨if (h.rdH c i.a i.b).over=true then h.rdH c i.a i.b else (h.rdH c i.a i.b).emit (c.rd i.a) i.b,c.clr,c.pc+1⟩
def resP (h:Hp) (c:Cal) (i:In):Did:=⟨h.must (decide (c.giv.kind=i.b)),if h.mustB (decide (c.giv.kind=i.b))=true then wrP h c.clr i.a c.giv else c.clr,c.pc+1⟩
def cauP (h:Hp) (c:Cal) (i:In):Did:=⟨h.must (isRef c.cau),if h.mustB (isRef c.cau)=true then wrP h c.clr i.a c.cau else c.clr,c.pc+1⟩
def doesP (h:Hp) (c:Cal) (i:In):Did :=
 if i.op=10 then ⟨h,c.clr,i.a⟩
 else if i.op=11 then ifP h c i
 else if i.op=12 then ifnP h c i
 else if i.op=15 then putP h c i
 else if i.op=16 then castP h c i
 else if i.op=19 then resP h c i
 else if i.op=21 then thrP h c i
 else if i.op=22 then cauP h c i
 else if i.op=23 then emitP h c i
 else givesP h c i
def Hp.enterL (h:Hp):List Va→List Ty→Bool
 | v::l,t::k=>h.of v t&&h.enterL l k
 | _,_=>true
def Hp.deep (h:Hp):Bool:=decide (20≤h.calls)
def Hp.enterB (h:Hp) (m:Me) (l:List Va):Bool:=h.enterL l m.params&&!h.deep
def Hp.enterH (h:Hp) (m:Me) (l:List Va):Hp :=
 if h.enterL l m.params=false then h.fin 6 else if h.deep=true then h.fin 5 else { h with calls:=h.calls+1 }
def argsP (l:List Va) (at':Nat):List Va→List Va
 | []=>l
 | v::k=>argsP (stoP l at' v) (at'+sizP [v]) k
def newCal (m:Me) (l:List Va):Cal:=⟨m,argsP (List.replicate m.regs.toNat va0) 0 l,va0,va0,0⟩
def Hp.leave (h:Hp):Hp:={ h with calls:=h.calls-1 }
def Cal.rds (c:Cal):List Int→List Ty→List Va
 | a::l,t::k=>c.rd a::c.rds l k
 | _,_=>[]
def Hp.rdsH (h:Hp) (c:Cal):List Int→List Ty→Hp
 | a::l,t::k=>(h.rdH c a t.kind).rdsH c l k
 | _,_=>h
def nextP (go:Hp→Cal→Hp×Va) (d:Did):Hp×Va :=
 if d.h.over=true then (d.h.leave,va0)
 else if 0≤d.h.thrown then
  (if d.h.caughtL d.c.pc d.c.m.hands<0 then (d.h.leave,va0)
   else go { d.h with thrown:=-1 } { d.c with cau:=⟨3,d.h.thrown⟩,pc:=d.h.caughtL d.c.pc d.c.m.hands })
 else go d.h { d.c with pc:=d.nx }
def runP (go:Hp→Cal→Hp×Va) (h:Hp) (m:Me) (l:List Va):Hp×Va :=
 if h.enterB m l=true then go (h.enterH m l) (newCal m l) else (h.enterH m l,va0)
def callP (go:Hp→Cal→Hp×Va) (h:Hp) (c:Cal) (i:In):Did :=
 let m:=nth me0 h.file.methods i.a.toNat
 let h1:=h.rdsH c i.args m.params
 if h1.over=true then ⟨h1,c.clr,c.pc+1⟩
 else let r:=runP go h1 m (c.rds i.args m.params)
  ⟨r.1,{ c.clr with giv:=r.2 },c.pc+1⟩
def retP (h:Hp) (c:Cal) (i:In):Hp×Va :=
 if c.m.ret.kind=0 then (h.leave,va0)
 else let h1:=h.rdH c i.a c.m.ret.kind
  ((h1.must (!h1.over&&h1.of (c.rd i.a) c.m.ret)).leave,c.rd i.a)
def stepP (go:Hp→Cal→Hp×Va) (h:Hp) (c:Cal):Hp×Va :=
 if h.mustB (decide (c.pc<c.m.code.length))=false then ((h.must (decide (c.pc<c.m.code.length))).leave,va0)
 else if (nth in0 c.m.code c.pc.toNat).op=20 then retP h c (nth in0 c.m.code c.pc.toNat)
 else nextP go (if (nth in0 c.m.code c.pc.toNat).op=18 then callP go h c (nth in0 c.m.code c.pc.toNat) else doesP h c (nth in0 c.m.code c.pc.toNat))
def loopP:Nat→Hp→Cal→Hp×Va
 | 0,h,c=>(h.step.leave,va0)
 | n+1,h,c=>if h.stepB=false then (h.step.leave,va0) else stepP (loopP n) h.step c
def regB (regs n kind:Int):Bool:=decide (0≤n∧n≤regs-(if kind=2 then 2 else 1))
def kindsOf (op:Int):Option (Int×Int×Int) :=
 if op=1 then some (1,0,0)
 else if op=2 then some (2,0,0)
 else if op=3 then some (3,0,0)
 else if op=4 then some (-1,-1,-1)
 else if op=5 then some (1,1,1)
 else if op=6 then some (2,2,2)
 else if op=7 then some (2,1,0)
 else if op=8 then some (1,2,0)
 else if op=9 then some (1,2,2)
 else if op=10 then some (-1,0,0)
 else if op=11 then some (-1,-1,1)
 else if op=12 then some (-1,0,3)
 else if op=13 then some (3,-1,0)
 else if op=14 then some (-1,3,-1)
 else if op=15 then some (-1,3,-1)
 else if op=16 then some (3,-1,0)
 else if op=17 then some (1,3,-1)
 else if op=18 then some (-1,0,0)
 else if op=19 then some (-1,-1,0)
 else if op=20 then some (-1,0,0)
 else if op=21 then some (3,0,0)
 else if op=22 then some (3,0,0)
 else if op=23 then some (-1,-1,0)
 else if op=24 then some (2,0,0)
 else none
def rfldB (regs n kind:Int):Bool:=if kind=0 then decide (n=0) else if 0<kind then regB regs n kind else true
def rrestB (cs:List Cl) (ms:List Me) (ncode:Nat) (regs ret:Int) (i:In):Bool :=
 decide (i.op=18∨i.args.length=0) &&
 (if i.op=14∨i.op=15 then decide (0≤i.c∧i.c<cs.length∧0≤i.n∧i.n<(nth cl0 cs i.c.toNat).fields.length)&&regB regs i.a (nth ty0 (nth cl0 cs i.c.toNat).fields i.n.toNat).kind
 else if i.op=1 then decide (-2147483648≤i.n∧i.n≤2147483647)
 else if i.op=2 then true
 else if i.op=5∨i.op=6 then decide (1≤i.n∧i.n≤8)
 else decide (i.n=0) &&
  (if i.op=4 then decide (1≤i.c∧i.c≤3)&&regB regs i.a i.c&&regB regs i.b i.c
  else if i.op=10∨i.op=12 then decide (0≤i.a∧i.a<ncode)
  else if i.op=11 then decide (0≤i.a∧i.a<ncode∧1≤i.b∧i.b≤4)
  else if i.op=13∨i.op=16 then decide (0≤i.b∧i.b<cs.length)
  else if i.op=17 then decide (0≤i.c∧i.c<cs.length)
  else if i.op=19 then decide (1≤i.b∧i.b≤3)&&regB regs i.a i.b
  else if i.op=23 then decide (1≤i.b∧i.b≤2)&&regB regs i.a i.b
  else if i.op=20 then (if ret=0 then decide (i.a=0) else regB regs i.a ret)
  else if i.op=18 then decide (0≤i.a∧i.a<ms.length∧i.args.length=(nth me0 ms i.a.toNat).params.length) &&
   (List.range i.args.length).all (fun k=>regB regs (nth (0:Int) i.args k) (nth ty0 (nth me0 ms i.a.toNat).params k).kind)
  else true))
def rinB (cs:List Cl) (ms:List Me) (ncode:Nat) (regs ret:Int) (i:In):Bool :=
 match kindsOf i.op with
 | none=>false
 | some (x,y,z)=>rfldB regs i.a x&&rfldB regs i.b y&&rfldB regs i.c z&&rrestB cs ms ncode regs ret i
def rmeB (cs:List Cl) (ms:List Me) (m:Me):Bool :=
 headB cs.length m 2400&&decide (m.stack=0∧m.locs=0∧1≤m.regs∧m.regs≤90∧(slotsN m.params:Int)≤m.regs)&&m.code.all (rinB cs ms m.code.length m.regs m.ret.kind)
def rfmayB (f:Fi):Bool:=mayB f.classes&&decide (1≤f.methods.length∧f.methods.length≤8)&&f.methods.all (rmeB f.classes f.methods)
structure GdV (h:Hp) (v:Va):Prop where
 ref:v.kind=3→-1≤v.n∧v.n<h.objs.length
 num:I64 v.n
theorem gdV0 (h:Hp):GdV h va0:=⟨fun e=>absurd e (by decide),by unfold I64;decide⟩
structure InOk (cs:List Cl) (ms:List Me) (ncode:Nat) (regs ret:Int) (i:In):Prop where
 op:1≤i.op∧i.op≤24
 a:(i.op≤9∨(13≤i.op∧i.op≤17)∨i.op=19∨21≤i.op)→0≤i.a∧i.a<regs
 two:(i.op=2∨i.op=6∨i.op=7∨i.op=24∨(i.op=4∧i.c=2)∨(i.op=19∧i.b=2)∨(i.op=14∧(nth ty0 (nth cl0 cs i.c.toNat).fields i.n.toNat).kind=2))→i.a+1<regs
 b:(4≤i.op∧i.op≤9∨i.op=14∨i.op=15∨i.op=17)→0≤i.b∧i.b<regs
 c:(i.op=5∨i.op=6∨i.op=9∨i.op=11∨i.op=12)→0≤i.c∧i.c<regs
 move:i.op=4→1≤i.c∧i.c≤3
 res:i.op=19→1≤i.b∧i.b≤3
 emit:i.op=23→1≤i.b∧i.b≤2
 fld:i.op=14∨i.op=15→0≤i.c∧i.c<cs.length∧0≤i.n∧i.n<(nth cl0 cs i.c.toNat).fields.length
 cls:i.op=13∨i.op=16→0≤i.b∧i.b<cs.length
 is':i.op=17→0≤i.c∧i.c<cs.length
 call:i.op=18→0≤i.a∧i.a<ms.length∧i.args.length=(nth me0 ms i.a.toNat).params.length
 args:i.op=18→∀k,k<i.args.length→0≤nth (0:Int) i.args k∧nth (0:Int) i.args k<regs
 jump:i.op=10∨i.op=11∨i.op=12→0≤i.a∧i.a<ncode
 ret:i.op=20→ret≠0→0≤i.a∧i.a<regs
theorem regB_ok (regs n kind:Int):(regB regs n kind=true)=(0≤n∧n<regs∧(kind=2→n+1<regs)):=by
 unfold regB
 rw [decide_eq_true_eq]
 by_cases hk:kind=2
 ·rw [if_pos hk];apply propext;constructor<;>intro h<;>omega
 ·rw [if_neg hk];apply propext;constructor<;>intro h<;>omega
theorem rin_op {cs:List Cl} {ms:List Me} {ncode:Nat} {regs ret:Int} {i:In} (h:rinB cs ms ncode regs ret i=true):1≤i.op∧i.op≤24:=by
 have hk:kindsOf i.op≠none:=by
  intro hn
  unfold rinB at h
  rw [hn] at h
  exact Bool.noConfusion h
 by_cases hr:1≤i.op∧i.op≤24
 ·exact hr
 ·exfalso
  apply hk
  unfold kindsOf
  repeat rw [if_neg (by omega)]
theorem rin_ok {cs:List Cl} {ms:List Me} {ncode:Nat} {regs ret:Int} {i:In} (h:rinB cs ms ncode regs ret i=true):InOk cs ms ncode regs ret i:=by
 have hop:=rin_op h
 unfold rinB at h
 rcases (by omega:i.op=1∨i.op=2∨i.op=3∨i.op=4∨i.op=5∨i.op=6∨i.op=7∨i.op=8∨i.op=9∨i.op=10∨i.op=11∨i.op=12∨i.op=13∨i.op=14∨i.op=15∨i.op=16∨i.op=17∨i.op=18∨i.op=19∨i.op=20∨i.op=21∨i.op=22∨i.op=23∨i.op=24) with e|e|e|e|e|e|e|e|e|e|e|e|e|e|e|e|e|e|e|e|e|e|e|e
 all_goals
  simp only [e,kindsOf,rfldB,rrestB,regB_ok,true_implies,false_implies,if_true,if_false,Int.reduceEq,Int.reduceLT,Int.reduceNeg,or_true,true_or,or_false,false_or,or_self,Bool.and_eq_true,decide_eq_true_eq,List.all_eq_true,List.mem_range,Bool.true_and,decide_true] at h
 all_goals
  constructor
  all_goals intros
  all_goals first|omega|(exact ⟨(h.2.2.2 _ ‹_›).1,(h.2.2.2 _ ‹_›).2.1⟩)|(have h':=h.2.2.2;rw [if_neg ‹_›,regB_ok] at h';omega)
theorem i64_w64 (a:Int):I64 (wrap64 a):=by have:=w64_bd a;unfold I64;omega
theorem i64_w32 (a:Int):I64 (wrap32 a):=by have:=w32_bd a;unfold I64;omega
theorem i64_tmod (a b:Int) (ha:I64 a):I64 (a.tmod b):=by
 have h1:(a.tmod b).natAbs=a.natAbs%b.natAbs:=Int.natAbs_tmod a b
 have h2:a.natAbs%b.natAbs≤a.natAbs:=Nat.mod_le _ _
 have h3:=tmod_sign a b
 unfold I64 at *
 omega
theorem i64_lng (op a b:Int) (ha:I64 a):I64 (lngV op a b):=by
 have h0:I64 0:=by unfold I64;omega
 unfold lngV
 split
 ·exact i64_w64 _
 split
 ·exact i64_w64 _
 split
 ·exact i64_w64 _
 split
 ·split
  ·exact h0
  ·exact i64_w64 _
 split
 ·split
  ·exact h0
  ·exact i64_tmod a b ha
 split
 ·exact i64_w64 _
 ·exact h0
structure Le (h h':Hp):Prop where
 file:h'.file=h.file
 input:h'.input=h.input
 fuel:h'.fuel=h.fuel
 objs:h.objs.length≤h'.objs.length
 steps:h.sh.steps≤h'.sh.steps
 calls:h'.calls=h.calls
theorem Le.refl (h:Hp):Le h h:=⟨rfl,rfl,rfl,Nat.le_refl _,Int.le_refl _,rfl⟩
theorem Le.trans {a b c:Hp} (h:Le a b) (k:Le b c):Le a c:=⟨k.file.trans h.file,k.input.trans h.input,k.fuel.trans h.fuel,Nat.le_trans h.objs k.objs,Int.le_trans h.steps k.steps,k.calls.trans h.calls⟩
theorem GdV.le {h h':Hp} {v:Va} (g:GdV h v) (l:Le h h'):GdV h' v:=⟨fun e=>⟨(g.ref e).1,by have:=(g.ref e).2;have:=l.objs;omega⟩,g.num⟩
structure Gh (s:Nat) (h:Hp):Prop where
 held:∀o∈h.objs,∀x∈o.held,GdV h x.v
 thr:-1≤h.thrown∧h.thrown<h.objs.length
 used:0≤h.sh.used
 steps:h.sh.steps≤h.fuel
 fuel:0≤h.fuel∧h.fuel≤60000
 out:(h.sh.out.length:Int)+s≤h.sh.steps
 len:h.objs.length≤100
 inp:∀n∈h.input,I64 n
 calls:0≤h.calls∧h.calls≤20
theorem Gh.same {s:Nat} {h h':Hp} (g:Gh s h) (e1:h'.objs=h.objs) (e2:h'.sh.used=h.sh.used) (e3:h'.sh.steps=h.sh.steps) (e4:h'.fuel=h.fuel) (e5:h'.sh.out=h.sh.out) (e6:h'.input=h.input) (e7:h'.calls=h.calls) (ht:-1≤h'.thrown∧h'.thrown<h'.objs.length):Gh s h' :=
 ⟨fun o ho x hx=>⟨fun e=>by rw [e1];exact (g.held o (e1▸ho) x hx).ref e,(g.held o (e1▸ho) x hx).num⟩,ht,by rw [e2];exact g.used,by rw [e3,e4];exact g.steps,by rw [e4];exact g.fuel,by rw [e5,e3];exact g.out,by rw [e1];exact g.len,by rw [e6];exact g.inp,by rw [e7];exact g.calls⟩
theorem Gh.less {s:Nat} {h:Hp} (g:Gh s h):Gh 0 h:=⟨g.held,g.thr,g.used,g.steps,g.fuel,by have:=g.out;omega,g.len,g.inp,g.calls⟩
theorem fin_le (h:Hp) (e:Int):Le h (h.fin e):=by unfold Hp.fin;split<;>exact ⟨rfl,rfl,rfl,Nat.le_refl _,Int.le_refl _,rfl⟩
theorem Gh.fin {s:Nat} {h:Hp} (g:Gh s h) (e:Int):Gh s (h.fin e):=by
 unfold Hp.fin;split
 ·exact g
 ·exact g.same rfl rfl rfl rfl rfl rfl rfl g.thr
theorem must_le (h:Hp) (b:Bool):Le h (h.must b):=by unfold Hp.must;split;exact Le.refl h;exact fin_le h 6
theorem Gh.must {s:Nat} {h:Hp} (g:Gh s h) (b:Bool):Gh s (h.must b):=by unfold Hp.must;split;exact g;exact g.fin 6
theorem init_gd (h:Hp) (t:Ty):GdV h (initV t):=by
 unfold initV
 refine ⟨fun e=>?_,?_⟩
 ·dsimp only at e ⊢;rw [if_pos e];omega
 ·dsimp only;split<;>(unfold I64;omega)
theorem newHeld_gd (h:Hp) (cs:List Cl) (c:Nat):∀x∈newHeld cs c,GdV h x.v:=by
 intro x hx
 unfold newHeld at hx
 rw [List.mem_flatMap] at hx
 obtain ⟨d,-,hd⟩:=hx
 unfold heldOf at hd
 split at hd
 ·rw [List.mem_map] at hd
  obtain ⟨k,-,rfl⟩:=hd
  exact init_gd h _
 ·simp at hd
theorem new_le (h:Hp) (c:Int):Le h (h.new c):=by
 unfold Hp.new;split
 ·exact fin_le h 4
 ·exact ⟨rfl,rfl,rfl,by simp,Int.le_refl _,rfl⟩
theorem Gh.new {s:Nat} {h:Hp} (g:Gh s h) (c:Int):Gh s (h.new c):=by
 have hle:=new_le h c
 unfold Hp.new at hle ⊢;split
 ·exact g.fin 4
 ·rename_i hf
  have hlt:h.objs.length<100:=by unfold Hp.full at hf;simpa using hf
  rw [if_neg hf] at hle
  refine ⟨fun o ho x hx=>?_,?_,g.used,g.steps,g.fuel,g.out,?_,g.inp,g.calls⟩
  ·rw [List.mem_append] at ho
   rcases ho with ho|ho
   ·exact (g.held o ho x hx).le hle
   ·simp at ho;subst ho;exact newHeld_gd _ _ _ x hx
  ·have:=g.thr;dsimp only;rw [List.length_append];omega
  ·dsimp only;rw [List.length_append];simp;omega
theorem newV_gd (h:Hp) (c:Int):GdV (h.new c) h.newV:=by
 unfold Hp.newV Hp.new
 split
 ·exact gdV0 _
 ·refine ⟨fun _=>by dsimp only;rw [List.length_append];simp;omega,?_⟩
  rename_i hf
  have hlt:h.objs.length<100:=by unfold Hp.full at hf;simpa using hf
  dsimp only;unfold I64;omega
theorem raise_le (h:Hp) (c:Int):Le h (h.raise c):=by
 have:=new_le h c
 unfold Hp.raise;split
 ·exact this
 ·exact ⟨this.file,this.input,this.fuel,this.objs,this.steps,this.calls⟩
theorem Gh.raise {s:Nat} {h:Hp} (g:Gh s h) (c:Int):Gh s (h.raise c):=by
 have gn:=g.new c
 unfold Hp.raise;split
 ·exact gn
 ·rename_i ho
  refine gn.same rfl rfl rfl rfl rfl rfl rfl ?_
  dsimp only
  have hf:¬h.full=true:=fun hf=>ho (by unfold Hp.new;rw [if_pos hf];unfold Hp.fin;split<;>simp_all)
  unfold Hp.newV Hp.new
  rw [if_neg hf,if_neg hf]
  dsimp only
  rw [List.length_append]
  simp
  omega
theorem throw_le (h:Hp) (v:Va):Le h (h.throw v):=by
 unfold Hp.throw;split
 ·split
  ·exact raise_le h 1
  ·exact ⟨rfl,rfl,rfl,Nat.le_refl _,Int.le_refl _,rfl⟩
 ·exact must_le h _
theorem Gh.throw {s:Nat} {h:Hp} (g:Gh s h) (v:Va) (hv:GdV h v):Gh s (h.throw v):=by
 unfold Hp.throw;split
 ·rename_i hm
  split
  ·exact g.raise 1
  ·rename_i hn
   have hk:v.kind=3:=by have:=(mustB_true hm).1;unfold isRef at this;exact of_decide_eq_true this
   exact g.same rfl rfl rfl rfl rfl rfl rfl ⟨by dsimp only;omega,(hv.ref hk).2⟩
 ·exact g.must _
theorem findH_le (h:Hp) (r:Va) (c:Int):Le h (h.findH r c):=by
 unfold Hp.findH;split
 ·split
  ·exact raise_le h 1
  ·exact Le.refl h
 ·exact must_le h _
theorem Gh.findH {s:Nat} {h:Hp} (g:Gh s h) (r:Va) (c:Int):Gh s (h.findH r c):=by
 unfold Hp.findH;split
 ·split
  ·exact g.raise 1
  ·exact g
 ·exact g.must _
theorem getV_gd {s:Nat} {h:Hp} (g:Gh s h) (r:Va) (c k:Int) (hr:GdV h r):GdV h (h.getV r c k):=by
 unfold Hp.getV;split
 ·exact gdV0 h
 ·rename_i hn
  obtain ⟨q,hq⟩:∃q:Nat,h.findN r c k=q:=⟨(h.findN r c k).toNat,by omega⟩
  have hk:h.mustB (h.of r ⟨3,c⟩)=true:=by
   by_cases hm:h.mustB (h.of r ⟨3,c⟩)=true
   ·exact hm
   ·unfold Hp.findN at hq;rw [if_neg hm] at hq;omega
  have h3:r.kind=3:=of_ref (mustB_true hk).1
  have hn':¬r.n<0:=fun hh=>by unfold Hp.findN at hq;rw [if_pos hk,if_pos hh] at hq;omega
  have he:heldAt (h.obj r.n).held c k=q:=by unfold Hp.findN at hq;rw [if_pos hk,if_neg hn'] at hq;exact hq
  have hlt:q<(h.obj r.n).held.length:=by
   rcases heldAt_lt (h.obj r.n).held c k with h0|⟨q',h1,h2⟩
   ·omega
   ·omega
  have hol:r.n.toNat<h.objs.length:=by have:=(hr.ref h3).2;omega
  rw [hq,Int.toNat_natCast]
  exact g.held _ (nth_mem hol) _ (nth_mem hlt)
theorem put_le (h:Hp) (r:Va) (c k:Int) (v:Va):Le h (h.put r c k v):=by
 unfold Hp.put;split
 ·split
  ·exact findH_le h r c
  ·have:=findH_le h r c
   exact ⟨this.file,this.input,this.fuel,by unfold Hp.setV;dsimp only;rw [List.length_set];exact this.objs,this.steps,this.calls⟩
 ·exact must_le h _
theorem mem_set' {α:Type} {l:List α} {n:Nat} {x y:α} (h:y∈l.set n x):y=x∨y∈l:=by
 rcases List.mem_or_eq_of_mem_set h with h|h
 ·exact Or.inr h
 ·exact Or.inl h
theorem Gh.put {s:Nat} {h:Hp} (g:Gh s h) (r:Va) (c k:Int) (v:Va) (hv:GdV h v):Gh s (h.put r c k v):=by
 unfold Hp.put;split
 ·split
  ·exact g.findH r c
  ·have gf:=g.findH r c
   have gv:=hv.le (findH_le h r c)
   generalize h.findH r c=h1 at gf gv
   generalize r.n.toNat=n
   generalize (h.findN r c k).toNat=j
   refine ⟨fun o ho x hx=>?_,?_,gf.used,gf.steps,gf.fuel,gf.out,?_,gf.inp,gf.calls⟩
   ·have key:GdV h1 x.v:=by
     unfold Hp.setV at ho
     dsimp only at ho
     by_cases hn:n<h1.objs.length
     ·rcases mem_set' ho with rfl|ho
      ·dsimp only at hx
       rcases mem_set' hx with rfl|hx
       ·exact gv
       ·exact gf.held _ (nth_mem hn) x hx
      ·exact gf.held o ho x hx
     ·rw [List.set_eq_of_length_le (by omega)] at ho;exact gf.held o ho x hx
    exact ⟨fun e=>by unfold Hp.setV;dsimp only;rw [List.length_set];exact key.ref e,key.num⟩
   ·have:=gf.thr;unfold Hp.setV;dsimp only;rw [List.length_set];exact this
   ·unfold Hp.setV;dsimp only;rw [List.length_set];exact gf.len
 ·exact g.must _
theorem cast_le (h:Hp) (v:Va) (c:Int):Le h (h.cast v c):=by
 unfold Hp.cast;split
 ·split
  ·exact Le.refl h
  ·exact raise_le h 3
 ·exact must_le h _
theorem Gh.cast {s:Nat} {h:Hp} (g:Gh s h) (v:Va) (c:Int):Gh s (h.cast v c):=by
 unfold Hp.cast;split
 ·split
  ·exact g
  ·exact g.raise 3
 ·exact g.must _
theorem emit_le (h:Hp) (v:Va) (k:Int):Le h (h.emit v k):=by
 unfold Hp.emit;split
 ·exact ⟨rfl,rfl,rfl,Nat.le_refl _,Int.le_refl _,rfl⟩
 ·exact must_le h _
theorem Gh.emit {h:Hp} (g:Gh 1 h) (v:Va) (k:Int):Gh 0 (h.emit v k):=by
 unfold Hp.emit;split
 ·refine ⟨(fun o ho x hx=>⟨(g.held o ho x hx).ref,(g.held o ho x hx).num⟩),g.thr,g.used,g.steps,g.fuel,?_,g.len,g.inp,g.calls⟩
  have:=g.out;dsimp only;rw [List.length_append];simp;omega
 ·exact (g.must _).less
theorem input_le (h:Hp):Le h h.input':=by
 unfold Hp.input';split
 ·exact fin_le h 3
 ·exact ⟨rfl,rfl,rfl,Nat.le_refl _,Int.le_refl _,rfl⟩
theorem Gh.input {s:Nat} {h:Hp} (g:Gh s h):Gh s h.input':=by
 unfold Hp.input';split
 ·exact g.fin 3
 ·exact ⟨(fun o ho x hx=>⟨(g.held o ho x hx).ref,(g.held o ho x hx).num⟩),g.thr,by have:=g.used;dsimp only;omega,g.steps,g.fuel,g.out,g.len,g.inp,g.calls⟩
theorem inV_gd {s:Nat} {h:Hp} (g:Gh s h):GdV h h.inV:=by
 unfold Hp.inV;split
 ·exact gdV0 h
 ·rename_i hd
  refine ⟨fun e=>by dsimp only at e;omega,?_⟩
  dsimp only
  have hu:=g.used
  have hlt:h.sh.used.toNat<h.input.length:=by unfold Hp.dry at hd;simp at hd;omega
  exact g.inp _ (nth_mem hlt)
theorem reckH_le (h:Hp) (a b:Va) (k op:Int):Le h (h.reckH a b k op):=by
 unfold Hp.reckH;split
 ·split
  ·exact Le.refl h
  ·exact raise_le h 2
 ·exact must_le h _
theorem Gh.reckH {s:Nat} {h:Hp} (g:Gh s h) (a b:Va) (k op:Int):Gh s (h.reckH a b k op):=by
 unfold Hp.reckH;split
 ·split
  ·exact g
  ·exact g.raise 2
 ·exact g.must _
theorem reckV_gd (h h':Hp) (a b:Va) (k op:Int) (hk:k=1∨k=2) (ha:I64 a.n):GdV h' (h.reckV a b k op):=by
 unfold Hp.reckV;split
 ·refine ⟨fun e=>by dsimp only at e;omega,?_⟩
  dsimp only;unfold reckN;split
  ·exact i64_w32 _
  ·exact i64_lng _ _ _ ha
 ·exact gdV0 _
theorem step_le (h:Hp):Le h h.step:=by
 unfold Hp.step;split
 ·exact Le.refl h
 ·split
  ·exact fin_le h 0
  ·exact ⟨rfl,rfl,rfl,Nat.le_refl _,by dsimp only;omega,rfl⟩
theorem Gh.step {h:Hp} (g:Gh 0 h) (hb:h.stepB=true):Gh 1 h.step:=by
 unfold Hp.stepB at hb
 simp at hb
 unfold Hp.step
 rw [if_neg (by rw [hb.1];decide),if_neg (by omega)]
 exact ⟨(fun o ho x hx=>⟨(g.held o ho x hx).ref,(g.held o ho x hx).num⟩),g.thr,g.used,by dsimp only;omega,g.fuel,by have:=g.out;dsimp only;omega,g.len,g.inp,g.calls⟩
theorem Gh.step0 {h:Hp} (g:Gh 0 h) (hb:h.stepB=false):Gh 0 h.step:=by
 unfold Hp.stepB at hb
 unfold Hp.step;split
 ·exact g
 ·rename_i ho
  split
  ·exact g.fin 0
  ·rename_i hf
   have:h.over=false:=by simpa using ho
   rw [this] at hb
   simp at hb
   omega
structure Gc (h:Hp) (c:Cal):Prop where
 giv:GdV h c.giv
 cau:GdV h c.cau
 locs:∀v∈c.locs,GdV h v
 ok:LocOk c.locs
 len:(c.locs.length:Int)=c.m.regs
 me:rmeB h.file.classes h.file.methods c.m=true
 mok:∀i∈c.m.code,i.ok
theorem sizP_append (l k:List Va):sizP (l++k)=sizP l+sizP k:=by
 induction l with
 | nil=>simp [sizP]
 | cons t l ih=>simp only [sizP,List.cons_append,ih];omega
theorem sizP_takeLe (l:List Va) (n:Nat):sizP (l.take n)≤sizP l:=by
 have:=sizP_append (l.take n) (l.drop n)
 rw [List.take_append_drop] at this
 omega
theorem smeP {cs:List Cl} {ms:List Me} {m:Me} (h:rmeB cs ms m=true):1≤m.regs∧m.regs≤90∧(slotsN m.params:Int)≤m.regs∧m.params.length≤4∧1≤m.code.length∧m.code.length≤2400∧(∀i∈m.code,rinB cs ms m.code.length m.regs m.ret.kind i=true)∧(∀t∈m.params,tyB cs.length t=true)∧(∀x∈m.hands,hdB cs.length m.code.length x=true)∧retB cs.length m.ret=true:=by
 unfold rmeB headB at h
 simp only [Bool.and_eq_true,List.all_eq_true,decide_eq_true_eq] at h
 obtain ⟨⟨⟨⟨⟨h1,h2⟩,h3⟩,h4⟩,h5⟩,h6⟩:=h
 exact ⟨by omega,by omega,by omega,by omega,by omega,by omega,h6,h2,h3,h4⟩
theorem Gc.le {h h':Hp} {c:Cal} (g:Gc h c) (l:Le h h'):Gc h' c :=
 ⟨g.giv.le l,g.cau.le l,fun v hv=>(g.locs v hv).le l,g.ok,g.len,by rw [l.file];exact g.me,g.mok⟩
theorem Gc.pc {h:Hp} {c:Cal} (g:Gc h c) (n:Int):Gc h { c with pc:=n }:=⟨g.giv,g.cau,g.locs,g.ok,g.len,g.me,g.mok⟩
theorem Gc.clr {h:Hp} {c:Cal} (g:Gc h c):Gc h c.clr:=⟨gdV0 h,gdV0 h,g.locs,g.ok,g.len,g.me,g.mok⟩
theorem Gc.rd {h:Hp} {c:Cal} (g:Gc h c) {a:Int} (ha:0≤a∧a<c.m.regs):GdV h (c.rd a):=g.locs _ (nth_mem (by have:=g.len;omega))
theorem fin_thrown (h:Hp) (e:Int):(h.fin e).thrown=h.thrown:=by unfold Hp.fin;split<;>rfl
theorem must_go {h:Hp} {b:Bool} (ho:(h.must b).over=false):b=true∧h.over=false:=by
 unfold Hp.must at ho;split at ho
 ·rename_i hb;exact ⟨hb,ho⟩
 ·unfold Hp.fin at ho;split at ho
  ·rename_i h1;rw [h1] at ho;cases ho
  ·simp at ho
theorem set_ok {l:List Va} (h:LocOk l) (i:Nat) (v:Va) (h9:v.kind≠9) (h2:v.kind≠2):LocOk (l.set i v):=by
 have key:∀j,j<l.length→nth va0 (l.set i v) j=v∨nth va0 (l.set i v) j=nth va0 l j:=fun j hj=>by
  by_cases e:i=j
  ·subst e;exact Or.inl (nth_set_eq hj)
  ·exact Or.inr (nth_set_ne e)
 refine ⟨fun j hj hk=>?_,fun j hj hk=>?_⟩
 ·rw [List.length_set] at hj
  rcases key j hj with e|e
  ·rw [e] at hk;exact absurd hk h9
  ·rw [e] at hk;exact h.nine j hj hk
 ·rw [List.length_set] at hj ⊢
  rcases key j hj with e|e
  ·rw [e] at hk;exact absurd hk h2
  ·rw [e] at hk;exact h.two j hj hk
theorem los_ok {l:List Va} (h:LocOk l) (a:Nat):LocOk (losP l a):=by
 have h0:(va0).kind≠9:=by decide
 have h1:(va0).kind≠2:=by decide
 unfold losP;split
 ·exact set_ok (set_ok h _ _ h0 h1) _ _ h0 h1
 ·split
  ·exact set_ok (set_ok h _ _ h0 h1) _ _ h0 h1
  ·exact set_ok h _ _ h0 h1
theorem sto_ok {l:List Va} (h:LocOk l) (a:Nat) (v:Va) (h9:v.kind≠9) (h2:v.kind=2→a+1<l.length):LocOk (stoP l a v):=by
 unfold stoP;split
 ·rename_i hk
  have hl:=h2 hk
  have h3:=los_ok (los_ok h a) (a+1)
  have hlen:(losP (losP l a) (a+1)).length=l.length:=by rw [losP_length,losP_length]
  generalize losP (losP l a) (a+1)=m at h3 hlen
  refine ⟨fun j hj hj9=>?_,fun j hj hj2=>?_⟩
  ·rw [List.length_set,List.length_set] at hj
   by_cases e:a=j
   ·subst e;rw [nth_set_eq (by rw [List.length_set];exact hj)] at hj9;exact absurd hj9 h9
   ·rw [nth_set_ne e] at hj9
    by_cases e2:a+1=j
    ·omega
    ·rw [nth_set_ne e2] at hj9;exact h3.nine j hj hj9
  ·rw [List.length_set,List.length_set] at hj ⊢
   by_cases e:a=j
   ·omega
   ·rw [nth_set_ne e] at hj2
    by_cases e2:a+1=j
    ·subst e2;rw [nth_set_eq hj] at hj2;exact absurd hj2 (by decide)
    ·rw [nth_set_ne e2] at hj2;exact h3.two j hj hj2
 ·rename_i hk
  exact set_ok (los_ok h a) a v h9 hk
theorem los_mem {l:List Va} {a:Nat} {x:Va} (h:x∈losP l a):x=va0∨x∈l:=by
 unfold losP at h;split at h
 ·rcases mem_set' h with h|h
  ·exact Or.inl h
  ·exact mem_set' h
 ·split at h
  ·rcases mem_set' h with h|h
   ·exact Or.inl h
   ·exact mem_set' h
  ·exact mem_set' h
theorem sto_gd {h:Hp} {l:List Va} (hl:∀x∈l,GdV h x) {v:Va} (hv:GdV h v) (a:Nat):∀x∈stoP l a v,GdV h x:=by
 intro x hx
 have h0:=gdV0 h
 have h9:GdV h ⟨9,0⟩:=⟨fun e=>absurd e (by decide),by unfold I64;decide⟩
 unfold stoP at hx;split at hx
 ·rcases mem_set' hx with rfl|hx
  ·exact hv
  rcases mem_set' hx with rfl|hx
  ·exact h9
  rcases los_mem hx with rfl|hx
  ·exact h0
  rcases los_mem hx with rfl|hx
  ·exact h0
  exact hl x hx
 ·rcases mem_set' hx with rfl|hx
  ·exact hv
  rcases los_mem hx with rfl|hx
  ·exact h0
  exact hl x hx
theorem Gc.wr {h:Hp} {c:Cal} (g:Gc h c) {a:Int} {v:Va} (hv:h.stops=false→GdV h v∧v.kind≠9∧(v.kind=2→a+1<c.m.regs)) (ha:0≤a):Gc h (wrP h c a v):=by
 unfold wrP;split
 ·exact g
 ·rename_i hs
  obtain ⟨h1,h2,h3⟩:=hv (by simpa using hs)
  refine ⟨g.giv,g.cau,sto_gd g.locs h1 _,sto_ok g.ok _ _ h2 (fun e=>by have:=h3 e;have:=g.len;omega),?_,g.me,g.mok⟩
  show ((stoP c.locs a.toNat v).length:Int)=c.m.regs
  rw [stoP_length];exact g.len
structure Fut (w:World) where
 to:World
 is:Bl w to
theorem wp_region_fut {P:Program} {id:Nat} {Q:Exit→Act→World→Prop} {a:Act} {w:World} {l:List Oper} (hm:P.follows .mixedOrders=true) (hB:Region.lexB .any l.toArray=true)
  (h:Nonempty (Fut w)→wpQuiet P l.toArray (fun w'=>∃x:Fut w,w'=x.to) (fun a'=>∀w',(∃x:Fut w,w'=x.to)→Q .normal a' w') l a):(Code.region id l.toArray true).wp P Q a w :=
 wp_region_quiet (C:=fun w'=>∃x:Fut w,w'=x.to) hm hB ⟨⟨_,(Bl.refl w).drew⟩,rfl⟩ (by simpa using h ⟨⟨w,Bl.refl w⟩⟩)
theorem Calls.fut {P:Program} {f:FuncId} {args:Array Value} {w:World} {v:Value} (x:Fut w)
  (h:Calls P f args x.to fun e w'=>e=.returned v∧Bl x.to w'):Calls P f args x.to fun e w''=>e=.returned v∧∃y:Fut w,w''=y.to :=
 h.mono fun _ w'' ⟨he,hb⟩=>⟨he,⟨w'',x.is.trans hb⟩,rfl⟩
theorem Calls.fut_same {P:Program} {f:FuncId} {args:Array Value} {w:World} {v:Value} (x:Fut w)
  (h:Calls P f args x.to fun e w'=>e=.returned v∧w'=x.to):Calls P f args x.to fun e w''=>e=.returned v∧∃y:Fut w,w''=y.to :=
 h.mono fun _ _ ⟨he,hb⟩=>⟨he,x,hb⟩
theorem Calls.fut_eq {P:Program} {f:FuncId} {args:Array Value} {w:World} {v v':Value} (x:Fut w)
  (h:Calls P f args x.to fun e w'=>e=.returned v∧Bl x.to w') (hv:v=v'):Calls P f args x.to fun e w''=>e=.returned v'∧∃y:Fut w,w''=y.to :=
 hv▸Calls.fut x h
theorem Calls.fut_same_eq {P:Program} {f:FuncId} {args:Array Value} {w:World} {v v':Value} (x:Fut w)
  (h:Calls P f args x.to fun e w'=>e=.returned v∧w'=x.to) (hv:v=v'):Calls P f args x.to fun e w''=>e=.returned v'∧∃y:Fut w,w''=y.to :=
 hv▸Calls.fut_same x h
theorem fut_cell {w:World} {b o:Nat} {v:Value} (h:w.cell? ⟨b,o,none⟩=some v) (x:Fut w):x.to.cell? ⟨b,o,none⟩=some v:=x.is.cell h
theorem takeH {P:Program} {md:Region.Mode} {ops:Array Oper} {Q:Exit→Act→World→Prop} {S:World→Prop} {i:Nat} {oi:Oper} {d:Option Tmp} {v:Value} {fuel:Nat} {listed:Array Bool} {a:Act} {w:World} (hi:ops[i]?=some oi) (hd:oi.dst=d)
  (hs:Region.noSelect ops=true) (hf:Region.free md ops listed i=true) (hr:(Region.ready md ops listed).contains i=true)
  (hQ:∀c a w,Q (.panic c) (a.put oi.dst v) w→Q (.panic c) a w) (hw:Region.wanted oi (yielded ops a.tmps)=true) (hy:∀w,S w→(execOp a.eval oi).run P w=.ok (.value v) w) (hS:S w)
  (h:wpAnyH P md ops Q S fuel (listed.setIfInBounds i true) (a.put d v) w):wpAnyH P md ops Q S (fuel+1) listed a w :=
 wpAnyH_take hi hs hf hr hQ (Or.inl ⟨hw,hy⟩) hS (hd▸h)
def qOp:Op→Bool
 | .call c=>match c.callee with | .builtin .len=>true|_=>false
 | .move _ | .assign _ | .fieldAddr .. | .nilCheck _ | .load .. | .binOp .. | .unOp .. | .indexAddr .. | .build .. | .slice .. | .index .. | .extract .. | .convert .. | .field .. | .pick .. | .lookup ..=>true
 | _=>false
def nxA (md:Region.Mode) (l:List Bool):List Edge→Bool
 | []=>true
 | e::es=>(!Region.binds md e||l.getD e.on false)&&nxA md l es
def nxL (md:Region.Mode) (l:List Bool) (k:Nat):List Oper→List Bool→Option (Nat×Oper)
 | o::os,b::bs=>match !b&&(qOp o.op&&nxA md l o.after.toList) with
  | true=>some (k,o)
  | false=>nxL md l (k+1) os bs
 | _,_=>none
theorem nx_at {md:Region.Mode} {l:List Bool} {i:Nat} {o:Oper}:∀(os:List Oper) (bs:List Bool) (k:Nat),nxL md l k os bs=some (i,o)→∃q,i=k+q∧os[q]?=some o
 | [],bs,k,h=>by simp [nxL] at h
 | x::os,[],k,h=>by simp [nxL] at h
 | x::os,b::bs,k,h=>by
  unfold nxL at h
  split at h
  ·have h:=Option.some.inj h
   exact ⟨0,by have:=congrArg Prod.fst h;simp at this;omega,by have:=congrArg Prod.snd h;simp at this;simp [this]⟩
  ·obtain ⟨q,h1,h2⟩:=nx_at os bs (k+1) h
   exact ⟨q+1,by omega,by simpa using h2⟩
theorem tn {P:Program} {md:Region.Mode} {ops:Array Oper} {Q:Exit→Act→World→Prop} {S:World→Prop} {i:Nat} {oi:Oper} {v:Value} {fuel:Nat} {listed:Array Bool} {a:Act} {w:World} (hn:nxL md listed.toList 0 ops.toList listed.toList=some (i,oi))
  (hr:(Region.noSelect ops&&(Region.free md ops listed i&&((Region.ready md ops listed).contains i&&Region.wanted oi (yielded ops a.tmps))))=true)
  (hQ:∀c a w,Q (.panic c) (a.put oi.dst v) w→Q (.panic c) a w) (hy:∀w,S w→(execOp a.eval oi).run P w=.ok (.value v) w) (hS:S w)
  (h:wpAnyH P md ops Q S fuel (listed.setIfInBounds i true) (a.put oi.dst v) w):wpAnyH P md ops Q S (fuel+1) listed a w:=by
 rw [Bool.and_eq_true,Bool.and_eq_true,Bool.and_eq_true] at hr
 obtain ⟨q,h1,h2⟩:=nx_at _ _ _ hn
 have hi:ops[i]?=some oi:=by rw [h1,Nat.zero_add,←Array.getElem?_toList];exact h2
 exact takeH hi rfl hr.1 hr.2.1 hr.2.2.1 hQ hr.2.2.2 hy hS h
theorem tk {P:Program} {md:Region.Mode} {ops:Array Oper} {Q:Exit→Act→World→Prop} {S:World→Prop} {i:Nat} {oi:Oper} {d:Option Tmp} {v:Value} {fuel:Nat} {listed:Array Bool} {a:Act} {w:World} (hi:ops[i]?=some oi) (hd:oi.dst=d)
  (hr:(Region.noSelect ops&&(Region.free md ops listed i&&(Region.ready md ops listed).contains i))=true)
  (hQ:∀c a w,Q (.panic c) (a.put oi.dst v) w→Q (.panic c) a w) (hw:Region.wanted oi (yielded ops a.tmps)=true) (hy:∀w,S w→(execOp a.eval oi).run P w=.ok (.value v) w) (hS:S w)
  (h:wpAnyH P md ops Q S fuel (listed.setIfInBounds i true) (a.put d v) w):wpAnyH P md ops Q S (fuel+1) listed a w:=by
 rw [Bool.and_eq_true,Bool.and_eq_true] at hr
 exact takeH hi hd hr.1 hr.2.1 hr.2.2 hQ hw hy hS h
theorem rd1 {P:Program} {md:Region.Mode} {ops:Array Oper} {Q:Exit→Act→World→Prop} {S:World→Prop} {fuel:Nat} {listed:Array Bool} {a:Act} {w:World} {i:Nat} {o:Oper} (hr:Region.ready md ops listed=[i]) (ho:ops[i]?=some o)
  (h:∀K':Act→World→Prop,Shut (∀a w,S w→(S w→wpAnyH P md ops Q S fuel (listed.setIfInBounds i true) a w)→K' a w)→if Region.wanted o (yielded ops a.tmps)=true then Oper.wp P o a w K' Q else K' (a.put o.dst undef) w):wpAnyH P md ops Q S (fuel+1) listed a w :=
 wpAnyH_ready hr (by simp) (AllReadyH.cons ho h AllReadyH.nil)
theorem aS (a:Act) (t:Tmp) (v:Value):a.put (some t) v={ a with tmps:=a.tmps.setIfInBounds t v }:=rfl
theorem aN (a:Act) (v:Value):a.put none v=a:=rfl
theorem aT {α:Type} (l:List α) (i:Nat) (x:α):l.toArray.setIfInBounds i x=(l.set i x).toArray:=List.setIfInBounds_toArray ..
theorem a0 {α:Type} (x y:α) (l:List α):(x::l).set 0 y=y::l:=rfl
theorem a1 {α:Type} (x y:α) (l:List α) (n:Nat):(x::l).set (n+1) y=x::l.set n y:=rfl
theorem aZ:(∀(a:Act) (t:Tmp) (v:Value),a.put (some t) v={ a with tmps:=a.tmps.setIfInBounds t v })∧(∀(a:Act) (v:Value),a.put none v=a)∧(∀{α:Type} (l:List α) (i:Nat) (x:α),l.toArray.setIfInBounds i x=(l.set i x).toArray)∧(∀{α:Type} (x y:α) (l:List α),(x::l).set 0 y=y::l)∧(∀{α:Type} (x y:α) (l:List α) (n:Nat),(x::l).set (n+1) y=x::l.set n y) :=
 ⟨aS,aN,aT,a0,a1⟩
theorem numbers_any (x n:Int) (w:World) :
  Calls Tryz.prog 144 #[.int .i64 x,.int .i64 n] w fun e w'=>e=.returned (.bool (decide (0≤x∧x<n)))∧w'=w:=by
 go_enter Tryz.func144,Tryz.ntmps144
 go_wp2
 all_goals
  go_ret
  refine ⟨ret_bool ?_,rfl⟩
  rw [Bool.eq_iff_iff];simp;try omega
theorem span_any (n lo hi:Int) (w:World) :
  Calls Tryz.prog 63 #[.int .i64 n,.int .i64 lo,.int .i64 hi] w fun e w'=>e=.returned (.bool (decide (lo≤n∧n≤hi)))∧w'=w:=by
 go_enter Tryz.func63,Tryz.ntmps63
 go_wp2
 all_goals
  go_ret
  refine ⟨ret_bool ?_,rfl⟩
  rw [Bool.eq_iff_iff];simp;try omega
theorem maySuper_any (c s:Int) (w:World) :
  Calls Tryz.prog 128 #[.int .i64 c,.int .i64 s] w fun e w'=>e=.returned (.bool (decide ((c=0∧s=-1)∨(c≠0∧0≤s∧s<c))))∧w'=w:=by
 by_cases h0:c=0
 ·subst h0
  go_enter Tryz.func128,Tryz.ntmps128
  go_wp2
  all_goals
   go_ret
   refine ⟨ret_bool ?_,rfl⟩
   rw [Bool.eq_iff_iff];simp
 ·go_enter Tryz.func128,Tryz.ntmps128
  go_wp2_with (go_at_call 144;refine (numbers_any _ _ _).mono ?_;rintro e w' ⟨rfl,rfl⟩)
  all_goals
   go_ret
   refine ⟨ret_bool ?_,rfl⟩
   rw [Bool.eq_iff_iff];simp;omega
theorem mayType_any (n:Nat) (k x:Int) (w:World) :
  Calls Tryz.prog 245 #[.agg #[.int .i64 k,.int .i64 x],.int .i64 n] w fun e w'=>e=.returned (.bool (tyB n ⟨k,x⟩))∧Bl w w':=by
 have hk:k=1∨k=2∨k=3∨(k≠1∧k≠2∧k≠3):=by omega
 rcases hk with rfl|rfl|rfl|⟨h1,h2,h3⟩
 all_goals
  go_enter Tryz.func245,Tryz.ntmps245
  go_wp2_with (go_at_call 144;refine (numbers_any _ _ _).mono ?_;rintro e w' ⟨rfl,rfl⟩)
  go_ret
  refine ⟨ret_bool ?_,(Bl.refl _).alloc _⟩
  unfold tyB
  rw [Bool.eq_iff_iff];simp;try omega
def fldB (n:Nat) (f:List Ty):Bool:=decide (f.length≤6)&&f.all (tyB n)
theorem fld_long {n:Nat} {f:List Ty} (h:¬f.length≤6):fldB n f=false:=by unfold fldB;rw [decide_eq_false h];rfl
theorem all_ty_bad {n q:Nat} {f:List Ty} (hq:q<f.length) (h:tyB n (nth ty0 f q)=false):f.all (tyB n)=false:=by
 rw [List.all_eq_false];exact ⟨nth ty0 f q,nth_mem hq,by rw [h];decide⟩
theorem all_ty_good {n:Nat} {f:List Ty} (ht:∀k,k<f.length→tyB n (nth ty0 f k)=true):f.all (tyB n)=true:=by
 rw [List.all_eq_true]
 intro x hx
 obtain ⟨k,hk,rfl⟩:=List.getElem_of_mem hx
 rw [←nth_get hk];exact ht k hk
theorem mayTypes_any (A:Option Addr) (n c:Nat) (F:List Ty) (w:World) (hl:TysAt w A F) :
  Calls Tryz.prog 186 #[.int .i64 n,.slice A F.length c] w fun e w'=>e=.returned (.bool (F.all (tyB n)))∧Bl w w':=by
 obtain ⟨hm,hl⟩:=hl
 unfold maxLen at hm
 have HG:Hid ((∀k,k<F.length→tyB n (nth ty0 F k)=true)→F.all (tyB n)=true):=all_ty_good
 have HT:Hid (∀q,q<F.length→tyB n (nth ty0 F q)=false→F.all (tyB n)=false):=fun q=>all_ty_bad
 obtain ⟨R,hR⟩:∃R,F.all (tyB n)=R:=⟨_,rfl⟩
 rw [hR] at HG HT ⊢
 clear hR
 go_enter Tryz.func186,Tryz.ntmps186
 go_wp2
 go_loopw [9] (fun i wr=>∃q:Nat,q≤F.length∧i=.int .i64 q∧Hid (∀j,j<q→tyB n (nth ty0 F j)=true)∧Hid (Bl w wr)) (fun i _=>F.length-(intOf i).toNat)
 case atStart=>exact ⟨0,Nat.zero_le _,rfl,fun j hj=>absurd hj (Nat.not_lt_zero _),Bl.refl _⟩
 case round =>
  obtain ⟨q,hq,rfl,hgq,hg⟩:=hrel
  by_cases hql:q<F.length
  ·rcases hl with h0|⟨b,off,rfl,hcell⟩
   ·omega
   obtain ⟨ht1,ht2,-,-⟩:=hcell q hql
   replace ht1:=hg.out.cell ht1
   replace ht2:=hg.out.cell ht2
   clear hcell HG
   cases hT:tyB n (nth ty0 F q)
   ·have hT':tyB n ⟨(nth ty0 F q).kind,(nth ty0 F q).cls⟩=false:=hT
    have HF:=HT.out q hql hT
    clear HT hT
    go_wp2_with (go_at_call 245;refine (mayType_any _ _ _ _).mono ?_;rintro e w1 ⟨rfl,hg1⟩)
    go_ret
    exact ⟨ret_bool HF.symm,(hg.out.alloc _).trans hg1⟩
   ·have hT':tyB n ⟨(nth ty0 F q).kind,(nth ty0 F q).cls⟩=true:=hT
    have HT1:Hid (tyB n (nth ty0 F q)=true):=hT
    clear hT HT
    go_wp2_with (go_at_call 245;refine (mayType_any _ _ _ _).mono ?_;rintro e w1 ⟨rfl,hg1⟩)
    go_roundw
    case rel=>exact ⟨q+1,by omega,by go_num,fun j hj=>if h:j<q then hgq.out j h else by have:j=q:=(by omega);subst this;exact HT1.out,(hg.out.alloc _).trans hg1⟩
    case measure=>simp [intOf];omega
  ·have hkk:q=F.length:=by omega
   subst hkk
   have HF:=HG.out hgq.out
   clear HG hl
   go_wp2
   go_ret
   exact ⟨ret_bool HF.symm,hg.out⟩
theorem mayFields_any (A:Option Addr) (n c:Nat) (F:List Ty) (w:World) (hl:TysAt w A F) :
  Calls Tryz.prog 129 #[.slice A F.length c,.int .i64 n] w fun e w'=>e=.returned (.bool (fldB n F))∧Bl w w':=by
 have hm:=hl.1
 unfold maxLen at hm
 by_cases h6:F.length≤6
 ·have hb:fldB n F=F.all (tyB n):=by unfold fldB;rw [decide_eq_true h6];rfl
  rw [hb]
  go_enter Tryz.func129,Tryz.ntmps129
  go_wp2_with (go_at_call 186;refine (mayTypes_any _ _ _ _ _ hl).mono ?_;rintro e w1 ⟨rfl,hg1⟩)
  go_ret
  exact ⟨rfl,hg1⟩
 ·have hb:=fld_long (n:=n) h6
  rw [hb]
  clear hb hl
  go_enter Tryz.func129,Tryz.ntmps129
  go_wp2
  go_ret
  exact ⟨rfl,Bl.refl _⟩
def supB (l:List Cl) (i:Nat):Bool:=decide (((i:Int)=0∧(nth cl0 l i).super=-1)∨((i:Int)≠0∧0≤(nth cl0 l i).super∧(nth cl0 l i).super<i))
theorem may_sup {l:List Cl} {i:Nat} (hi:i<l.length) (h:supB l i=false):mayB l=false:=by
 unfold supB at h
 rw [decide_eq_false_iff_not] at h
 by_cases h0:i=0
 ·subst h0;exact may_few (by omega)
 ·exact may_cl hi (cl_bad (by omega))
theorem may_fld {l:List Cl} {i:Nat} (hi:i<l.length) (h:fldB l.length (nth cl0 l i).fields=false):mayB l=false:=by
 refine may_cl hi ?_
 by_cases h6:(nth cl0 l i).fields.length≤6
 ·unfold fldB at h
  rw [decide_eq_true h6,Bool.true_and] at h
  unfold clB;rw [h,Bool.and_false]
 ·exact cl_bad (by omega)
theorem may_both {l:List Cl} (h4:4≤l.length) (h12:l.length≤12) (h:∀i,i<l.length→supB l i=true∧fldB l.length (nth cl0 l i).fields=true):mayB l=true:=by
 have h0:=(h 0 (by omega)).1
 unfold supB at h0
 rw [decide_eq_true_eq] at h0
 refine may_good ⟨h4,h12,by omega⟩ fun i hi=>?_
 obtain ⟨h1,h2⟩:=h i hi
 unfold supB at h1;unfold fldB at h2
 rw [decide_eq_true_eq] at h1
 rw [Bool.and_eq_true,decide_eq_true_eq] at h2
 unfold clB
 rw [h2.2,Bool.and_true,decide_eq_true_eq]
 exact ⟨by omega,h2.1⟩
theorem may_any (A:Option Addr) (c:Nat) (l:List Cl) (w:World) (hl:ClsAt w A l) :
  Calls Tryz.prog 62 #[.slice A l.length c] w fun e w'=>e=.returned (.bool (mayB l))∧Bl w w':=by
 obtain ⟨hm,hl⟩:=hl
 unfold maxLen at hm
 by_cases h4:¬(4≤(l.length:Int)∧(l.length:Int)≤12)
 ·have hb:mayB l=false:=may_few (by omega)
  rw [hb]
  clear hb hl
  have hd:decide (4≤(l.length:Int)∧(l.length:Int)≤12)=false:=decide_eq_false h4
  go_enter Tryz.func62,Tryz.ntmps62
  go_wp2_with (go_at_call 63;refine (span_any _ _ _ _).mono ?_;rintro e w1 ⟨he,rfl⟩;rw [hd] at he;subst he)
  go_ret
  exact ⟨rfl,Bl.refl _⟩
 replace h4:=Decidable.of_not_not h4
 have hd:decide (4≤(l.length:Int)∧(l.length:Int)≤12)=true:=decide_eq_true h4
 rcases hl with hl|⟨b,off,rfl,hc⟩
 ·omega
 have HB:Hid ((∀i,i<l.length→supB l i=true∧fldB l.length (nth cl0 l i).fields=true)→mayB l=true):=may_both (by omega) (by omega)
 go_enter Tryz.func62,Tryz.ntmps62
 go_wp2_with (go_at_call 63;refine (span_any _ _ _ _).mono ?_;rintro e w1 ⟨he,hw1⟩;rw [hd] at he;subst he;rw [hw1];clear hw1 w1)
 go_loopw [11] (fun i wr=>∃k:Nat,k≤l.length∧i=.int .i64 k∧Hid (∀j,j<k→supB l j=true∧fldB l.length (nth cl0 l j).fields=true)∧Hid (Bl w wr)) (fun i _=>l.length-(intOf i).toNat)
 case atStart=>exact ⟨0,Nat.zero_le _,rfl,fun j hj=>absurd hj (Nat.not_lt_zero _),Bl.refl _⟩
 case round =>
  obtain ⟨k,hk,rfl,hgood,hg⟩:=hrel
  by_cases hlt:k<l.length
  ·obtain ⟨hsup,hsb,A',c',hfl,hty⟩:=hc k hlt
   replace hsup:=hg.out.cell hsup
   replace hfl:=hg.out.cell hfl
   have HTY:Hid (TysAt wr A' (nth cl0 l k).fields):=hty.bl hg.out
   have HS:Hid (supB l k=false→mayB l=false):=may_sup hlt
   have HF:Hid (fldB l.length (nth cl0 l k).fields=false→mayB l=false):=may_fld hlt
   clear hc HB hty
   cases hS:supB l k
   ·have HBAD:=HS.out hS
    have hS':decide (((k:Int)=0∧(nth cl0 l k).super=-1)∨((k:Int)≠0∧0≤(nth cl0 l k).super∧(nth cl0 l k).super<k))=false:=hS
    clear hS
    go_wp2_with (go_at_call 128;refine (maySuper_any _ _ _).mono ?_;rintro e w1 ⟨he,rfl⟩;rw [hS'] at he;subst he)
    go_ret
    exact ⟨ret_bool HBAD.symm,hg.out.alloc _⟩
   ·have HST:Hid (supB l k=true):=hS
    have hS':decide (((k:Int)=0∧(nth cl0 l k).super=-1)∨((k:Int)≠0∧0≤(nth cl0 l k).super∧(nth cl0 l k).super<k))=true:=hS
    clear hS
    cases hF:fldB l.length (nth cl0 l k).fields
    ·have HBAD:=HF.out hF
     go_wp2_with (first
      | (go_at_call 128;refine (maySuper_any _ _ _).mono ?_;rintro e w1 ⟨he,rfl⟩;rw [hS'] at he;subst he)
      | (go_at_call 129;refine (mayFields_any _ _ _ _ _ (HTY.out.bl ((Bl.refl _).alloc _))).mono ?_;rintro e w1 ⟨he,hg1⟩;rw [hF] at he;subst he))
     go_ret
     exact ⟨ret_bool HBAD.symm,(hg.out.alloc _).trans hg1⟩
    ·have HFT:Hid (fldB l.length (nth cl0 l k).fields=true):=hF
     go_wp2_with (first
      | (go_at_call 128;refine (maySuper_any _ _ _).mono ?_;rintro e w1 ⟨he,rfl⟩;rw [hS'] at he;subst he)
      | (go_at_call 129;refine (mayFields_any _ _ _ _ _ (HTY.out.bl ((Bl.refl _).alloc _))).mono ?_;rintro e w1 ⟨he,hg1⟩;rw [hF] at he;subst he))
     go_roundw
     case rel=>exact ⟨k+1,by omega,by go_num,fun j hj=>if h:j<k then hgood.out j h else by have:j=k:=(by omega);subst this;exact ⟨HST.out,HFT.out⟩,(hg.out.alloc _).trans hg1⟩
     case measure=>simp [intOf];omega
  ·have hkk:k=l.length:=by omega
   subst hkk
   have HBB:=HB.out hgood.out
   clear HB hc
   go_wp2
   go_ret
   exact ⟨ret_bool HBB.symm,hg.out⟩
end Go.Proofs.YtgiiapenmjollabGreat
