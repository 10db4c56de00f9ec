import Derived.Test.YtgiiapenmjollaaSlag
import Derived.Test.YtgiiapenmjollaaChecked
import Derived.Deep.RegionHeld3
import Derived.RowKit3
namespace Go.Proofs.Ytgiiapenmjollaa
set_option linter.all false
set_option maxHeartbeats 40000000
open Go.RowKit
def RXY (s:Nat) (X Y:Nat→Prop) (wx w0:World) (g:Mg) (w:World) (h:Hp) (qs:List Nat) (a:Mc) (c:Cal):Prop :=
 ∃vc vo vx vs l,RXA s X wx w0 g w h qs a c vc vo vx vs l∧∀b,Y b→b<w.heap.size∧w0.heap.size≤b∧¬X b∧FarR g vc vo vx b∧FarC a vs b
def noY:Nat→Prop:=fun _=>False
theorem RX.y {s:Nat} {X:Nat→Prop} {wx w0 w:World} {g:Mg} {h:Hp} {qs:List Nat} {a:Mc} {c:Cal} (H:RX s X wx w0 g w h qs a c):RXY s X noY wx w0 g w h qs a c:=by
 obtain ⟨vc,vo,vx,vs,l,H⟩:=H
 exact ⟨vc,vo,vx,vs,l,H,fun b hb=>absurd hb (fun x=>x)⟩
theorem RXY.x {s:Nat} {X Y:Nat→Prop} {wx w0 w:World} {g:Mg} {h:Hp} {qs:List Nat} {a:Mc} {c:Cal} (H:RXY s X Y wx w0 g w h qs a c):RX s X wx w0 g w h qs a c:=by
 obtain ⟨vc,vo,vx,vs,l,H,-⟩:=H
 exact ⟨vc,vo,vx,vs,l,H⟩
theorem RXY.size {s:Nat} {X Y:Nat→Prop} {wx w0 w:World} {g:Mg} {h:Hp} {qs:List Nat} {a:Mc} {c:Cal} (H:RXY s X Y wx w0 g w h qs a c):w0.heap.size≤w.heap.size:=by
 obtain ⟨vc,vo,vx,vs,l,H,-⟩:=H
 exact H.rh.bl.size
theorem RX.size {s:Nat} {X:Nat→Prop} {wx w0 w:World} {g:Mg} {h:Hp} {qs:List Nat} {a:Mc} {c:Cal} (H:RX s X wx w0 g w h qs a c):w0.heap.size≤w.heap.size:=H.y.size
theorem RXY.bl {s:Nat} {X Y:Nat→Prop} {wx w0 w w':World} {g:Mg} {h:Hp} {qs:List Nat} {a:Mc} {c:Cal} (H:RXY s X Y wx w0 g w h qs a c) (hb:Bl w w'):RXY s X (Xp Y w.heap.size w'.heap.size) wx w0 g w' h qs a c:=by
 have hs:=H.size
 obtain ⟨vc,vo,vx,vs,l,H,F⟩:=H
 refine ⟨vc,vo,vx,vs,l,H.bl hb,fun b hy=>?_⟩
 have hsz:=hb.size
 rcases hy with hy|hy
 ·obtain ⟨h1,h2,h3,h4,h5⟩:=F b hy
  exact ⟨by omega,h2,h3,h4,h5⟩
 ·refine ⟨hy.2,by omega,fun hx=>?_,H.rh.farNew hy.1,H.ca.farNew hy.1⟩
  have:=(H.kept.blk b hx).1
  have:=H.kept.size
  omega
theorem RXY.less {s:Nat} {X Y Z:Nat→Prop} {wx w0 w:World} {g:Mg} {h:Hp} {qs:List Nat} {a:Mc} {c:Cal} (H:RXY s X Y wx w0 g w h qs a c) (hz:∀b,Z b→Y b):RXY s X Z wx w0 g w h qs a c:=by
 obtain ⟨vc,vo,vx,vs,l,H,F⟩:=H
 exact ⟨vc,vo,vx,vs,l,H,fun b hb=>F b (hz b hb)⟩
theorem RXY.set {s:Nat} {X Y:Nat→Prop} {wx w0 w:World} {g:Mg} {h:Hp} {qs:List Nat} {a:Mc} {c:Cal} (H:RXY s X Y wx w0 g w h qs a c) {b:Nat} (hb:Y b) (i:Nat) (v:Value):RXY s X Y wx w0 g (w.setCell ⟨b,i,none⟩ v) h qs a c:=by
 obtain ⟨vc,vo,vx,vs,l,H,F⟩:=H
 obtain ⟨h1,h2,h3,h4,h5⟩:=F b hb
 have hg:=grown_set (w:=w) b i v
 refine ⟨vc,vo,vx,vs,l,⟨H.rh.kept hg (fun x e=>?_),H.ca.kept hg (fun x e=>?_),H.farr,H.farc,H.kept.kept hg (fun x e hx=>?_)⟩,fun x hx=>?_⟩
 ·cases e;exact ⟨h2,h4⟩
 ·cases e;exact h5
 ·cases e;exact h3 hx
 ·obtain ⟨y1,y2⟩:=F x hx
  exact ⟨by simpa [World.setCell] using y1,y2⟩
structure KpY (Y:Nat→Prop) (w w':World):Prop where
 size:w.heap.size≤w'.heap.size
 blk:∀b,Y b→w'.heap[b]?=w.heap[b]?
theorem KpY.at {Y:Nat→Prop} {w w':World} (h:KpY Y w w') {b:Nat} {o:Obj} (hb:Y b) (ho:w.heap[b]?=some o):w'.heap[b]?=some o:=(h.blk b hb).trans ho
theorem KpY.to {Y:Nat→Prop} {w w' w2:World} (h:KpY Y w w') (hb:Bl w' w2) (hs:∀b,Y b→b<w.heap.size):KpY Y w w2 :=
 ⟨Nat.le_trans h.size hb.size,fun b hy=>(hb.block b (Nat.lt_of_lt_of_le (hs b hy) h.size)).trans (h.blk b hy)⟩
theorem RXY.wide {s:Nat} {X Y:Nat→Prop} {wx w0 w w':World} {g:Mg} {h:Hp} {qs:List Nat} {a:Mc} {c:Cal} (H:RXY s X Y wx w0 g w h qs a c) (hb:Bl w w'):RX s (fun b=>X b∨Xp Y w.heap.size w'.heap.size b) w' w0 g w' h qs a c:=by
 obtain ⟨vc,vo,vx,vs,l,H,F⟩:=H.bl hb
 refine ⟨vc,vo,vx,vs,l,H.rh,H.ca,?_,?_,Nat.le_refl _,fun b hx=>⟨?_,rfl⟩⟩
 ·rintro b (hx|hx)
  ·exact H.farr b hx
  ·exact (F b hx).2.2.2.1
 ·rintro b (hx|hx)
  ·exact H.farc b hx
  ·exact (F b hx).2.2.2.2
 ·rcases hx with hx|hx
  ·have:=(H.kept.blk b hx).1;have:=H.kept.size;omega
  ·exact (F b hx).1
theorem RXY.back {s s':Nat} {X Y:Nat→Prop} {wx w0 w w' w2:World} {g:Mg} {h h':Hp} {qs qs':List Nat} {a a':Mc} {c c':Cal} (H:RXY s X Y wx w0 g w h qs a c) (hb:Bl w w') (H2:RX s' (fun b=>X b∨Xp Y w.heap.size w'.heap.size b) w' w0 g w2 h' qs' a' c') :
  RXY s' X (Xp Y w.heap.size w'.heap.size) wx w0 g w2 h' qs' a' c'∧KpY (Xp Y w.heap.size w'.heap.size) w' w2:=by
 obtain ⟨vc,vo,vx,vs,l,H,F⟩:=H.bl hb
 obtain ⟨vc',vo',vx',vs',l',H2⟩:=H2
 refine ⟨⟨vc',vo',vx',vs',l',⟨H2.rh,H2.ca,fun b hx=>H2.farr b (Or.inl hx),fun b hx=>H2.farc b (Or.inl hx),Nat.le_trans H.kept.size H2.kept.size,fun b hx=>⟨(H.kept.blk b hx).1,?_⟩⟩,fun b hy=>?_⟩,H2.kept.size,fun b hy=>(H2.kept.blk b (Or.inr hy)).2⟩
 ·rw [(H2.kept.blk b (Or.inl hx)).2]
  exact (H.kept.blk b hx).2
 ·obtain ⟨h1,h2,h3,h4,h5⟩:=F b hy
  exact ⟨Nat.lt_of_lt_of_le h1 H2.kept.size,h2,h3,H2.farr b (Or.inr hy),H2.farc b (Or.inr hy)⟩
def RS (s:Nat) (X:Nat→Prop) (wx w0:World) (g:Mg) (w:World) (h:Hp) (qs:List Nat) (a:Mc) (c:Cal):Prop:=∃c':Cal,c'.m=c.m∧(c'.pc=c.pc∧c'.locs=c.locs)∧RX s X wx w0 g w h qs a c'
theorem RX.rs {s:Nat} {X:Nat→Prop} {wx w0 w:World} {g:Mg} {h:Hp} {qs:List Nat} {a:Mc} {c:Cal} (H:RX s X wx w0 g w h qs a c):RS s X wx w0 g w h qs a c:=⟨c,rfl,⟨rfl,rfl⟩,H⟩
theorem RXY.rs {s:Nat} {X Y:Nat→Prop} {wx w0 w:World} {g:Mg} {h:Hp} {qs:List Nat} {a:Mc} {c:Cal} (H:RXY s X Y wx w0 g w h qs a c):RS s X wx w0 g w h qs a c:=H.x.rs
theorem RS.of {s:Nat} {X:Nat→Prop} {wx w0 w:World} {g:Mg} {h:Hp} {qs:List Nat} {a:Mc} {c c':Cal} (H:RS s X wx w0 g w h qs a c) (h1:c.m=c'.m) (h2:c.pc=c'.pc∧c.locs=c'.locs):RS s X wx w0 g w h qs a c':=by
 obtain ⟨d,e1,e2,H⟩:=H
 exact ⟨d,e1.trans h1,⟨e2.1.trans h2.1,e2.2.trans h2.2⟩,H⟩
theorem RS.bl {s:Nat} {X:Nat→Prop} {wx w0 w w':World} {g:Mg} {h:Hp} {qs:List Nat} {a:Mc} {c:Cal} (H:RS s X wx w0 g w h qs a c) (hb:Bl w w'):RS s X wx w0 g w' h qs a c:=by
 obtain ⟨d,e1,e2,H⟩:=H
 exact ⟨d,e1,e2,H.bl hb⟩
theorem RXY.useY {s:Nat} {X Y:Nat→Prop} {wx w0 w w':World} {g:Mg} {h:Hp} {qs:List Nat} {a:Mc} {c:Cal} (H:RXY s X Y wx w0 g w h qs a c) (hb:Bl w w') {f:FuncId} {args:Array Value} {E:Ending} {s':Nat} {h':Hp} {qs':List Nat} {a':Mc} {c':Cal}
  (hc:∀X wx w,RX s X wx w0 g w h qs a c→Calls Try.prog f args w fun e w2=>e=E∧RX s' X wx w0 g w2 h' qs' a' c') :
  Calls Try.prog f args w' fun e w2=>e=E∧RXY s' X (Xp Y w.heap.size w'.heap.size) wx w0 g w2 h' qs' a' c'∧KpY (Xp Y w.heap.size w'.heap.size) w' w2:=by
 refine (hc _ _ _ (H.wide hb)).mono ?_
 rintro e w2 ⟨he,H2⟩
 obtain ⟨h3,h4⟩:=H.back hb H2
 exact ⟨he,h3,h4⟩
theorem RXY.useN {s:Nat} {X Y:Nat→Prop} {wx w0 w w':World} {g:Mg} {h:Hp} {qs:List Nat} {a:Mc} {c:Cal} (H:RXY s X Y wx w0 g w h qs a c) (hb:Bl w w') {f:FuncId} {args:Array Value} {E:Ending} {s':Nat} {h':Hp} {qs':List Nat} {a':Mc} {c':Cal}
  (hc:∀X wx w,RX s X wx w0 g w h qs a c→Calls Try.prog f args w fun e w2=>e=E∧RS s' X wx w0 g w2 h' qs' a' c') :
  Calls Try.prog f args w' fun e w2=>e=E∧RS s' X wx w0 g w2 h' qs' a' c':=by
 refine (hc _ _ _ (H.wide hb)).mono ?_
 rintro e w2 ⟨he,d,e1,e2,H2⟩
 exact ⟨he,d,e1,e2,(H.back hb H2).1.x⟩
theorem Xp.new {Y:Nat→Prop} {n m b:Nat} (h1:n≤b) (h2:b<m):Xp Y n m b:=Or.inr ⟨h1,h2⟩
theorem Xp.old {Y:Nat→Prop} {n m b:Nat} (h:Y b):Xp Y n m b:=Or.inl h
set_option maxRecDepth 100000 in
theorem takeKind_yes (s:Nat) (X:Nat→Prop) (wx w0:World) (g:Mg) (h:Hp) (qs:List Nat) (a:Mc) (c:Cal) (l:List Va) (v:Va) (k:Int) (w:World) (H:RX s X wx w0 g w h qs a c) (hs:c.stk=l++[v]) (hk:v.kind=k) :
  Calls Try.prog 89 #[.pointer (some ⟨a.q,0,none⟩),.int .i64 k] w fun e w'=>e=.returned (mvV (im v))∧RX s X wx w0 g w' h qs a { c with stk:=l }:=by
 have HH:Hid (RX s X wx w0 g w h qs a c):=H
 have HS:Hid (c.stk=l++[v]):=hs
 have HK:Hid ((im v).kind=k):=hk
 clear H hs hk
 go_enter Try.func89,Try.ntmps89
 go_wp2_with (first
  | (go_at_call 111;refine (HH.out.y.useY ((Bl.refl w).alloc _) (fun X wx w H=>mtake_yes s X wx w0 g h qs a c l v w H HS.out)).mono ?_;rintro e w1 ⟨rfl,H1,K1⟩;have H1:=hid H1;have q0:=K1.at (Xp.new (Nat.le_refl _) (by simp)) (blk_new w _ _);have K1:=hid K1)
  | (go_at_call 112;refine (mustbe_yes (im v) k _ HK.out).mono ?_;rintro e w2 ⟨rfl,b2⟩;replace q0:=bl_blk b2 q0;have c4:=c0_of q0;have c5:=c1_of q0;have fz:=free_blk q0;have b2:=hid b2;replace q0:=hid q0))
 refine bodyPost_ret (results_cell_row rfl _ _ w.heap.size _ _ _ _ rfl (set_two q0.out) Try.underlying109 rfl info_mv) rfl ?_
 refine ⟨rfl,RXY.x (RXY.set (RXY.set (H1.out.bl b2.out) ?_ 0 _) ?_ 1 _)⟩<;>exact Xp.old (Xp.new (Nat.le_refl _) (by simp))
set_option maxRecDepth 100000 in
theorem takeKind_no (s:Nat) (X:Nat→Prop) (wx w0:World) (g:Mg) (h:Hp) (qs:List Nat) (a:Mc) (c:Cal) (k:Int) (w:World) (H:RX s X wx w0 g w h qs a c) (hs:c.stk=[]∨∃l v,c.stk=l++[v]∧v.kind≠k) :
  Calls Try.prog 89 #[.pointer (some ⟨a.q,0,none⟩),.int .i64 k] w fun e w'=>e=stopE 6 0 0∧RS s X wx w0 g w' h qs a c:=by
 have HH:Hid (RX s X wx w0 g w h qs a c):=H
 clear H
 rcases hs with hs|⟨l,v,hs,hk⟩
 ·have HS:Hid (c.stk=[]):=hs
  clear hs
  go_enter Try.func89,Try.ntmps89
  go_wp2_with (go_at_call 111;refine (HH.out.y.useY ((Bl.refl w).alloc _) (fun X wx w H=>mtake_no s X wx w0 g h qs a c w H HS.out)).mono ?_;rintro e w1 ⟨rfl,H1,K1⟩)
  exact ⟨rfl,rfl,H1.rs⟩
 ·have HS:Hid (c.stk=l++[v]):=hs
  have HK:Hid ((im v).kind≠k):=hk
  clear hs hk
  go_enter Try.func89,Try.ntmps89
  go_wp2_with (first
   | (go_at_call 111;refine (HH.out.y.useY ((Bl.refl w).alloc _) (fun X wx w H=>mtake_yes s X wx w0 g h qs a c l v w H HS.out)).mono ?_;rintro e w1 ⟨rfl,H1,K1⟩;have H1:=hid H1;have K1:=hid K1)
   | (go_at_call 112;refine (mustbe_no (im v) k _ HK.out).mono ?_;rintro e w2 ⟨rfl,b2⟩;have b2:=hid b2))
  exact ⟨rfl,rfl,(H1.out.bl b2.out).rs.of rfl ⟨rfl,rfl⟩⟩
theorem takeH {P:Program} {md:Region.Mode} {ops:Array Oper} {Q:Exit→Act→World→Prop} {S:World→Prop} {i:Nat} {oi:Oper} {d:Option Tmp} {v:Value} {fuel:Nat} {listed:Array Bool} {a:Act} {w:World} (hi:ops[i]?=some oi) (hd:oi.dst=d)
  (hs:Region.noSelect ops=true) (hf:Region.free md ops listed i=true) (hr:(Region.ready md ops listed).contains i=true)
  (hQ:∀c a w,Q (.panic c) (a.put oi.dst v) w→Q (.panic c) a w) (hw:Region.wanted oi (yielded ops a.tmps)=true) (hy:∀w,S w→(execOp a.eval oi).run P w=.ok (.value v) w) (hS:S w)
  (h:wpAnyH P md ops Q S fuel (listed.setIfInBounds i true) (a.put d v) w):wpAnyH P md ops Q S (fuel+1) listed a w :=
 wpAnyH_take hi hs hf hr hQ (Or.inl ⟨hw,hy⟩) hS (hd▸h)
def qOp:Op→Bool
 | .call c=>match c.callee with | .builtin .len=>true|_=>false
 | .move _ | .assign _ | .fieldAddr .. | .nilCheck _ | .load .. | .binOp .. | .unOp .. | .indexAddr .. | .build .. | .slice .. | .index .. | .extract .. | .convert .. | .field .. | .pick .. | .lookup ..=>true
 | _=>false
def nxA (md:Region.Mode) (l:List Bool):List Edge→Bool
 | []=>true
 | e::es=>(!Region.binds md e||l.getD e.on false)&&nxA md l es
def nxL (md:Region.Mode) (l:List Bool) (k:Nat):List Oper→List Bool→Option (Nat×Oper)
 | o::os,b::bs=>match !b&&(qOp o.op&&nxA md l o.after.toList) with
  | true=>some (k,o)
  | false=>nxL md l (k+1) os bs
 | _,_=>none
theorem nx_at {md:Region.Mode} {l:List Bool} {i:Nat} {o:Oper}:∀(os:List Oper) (bs:List Bool) (k:Nat),nxL md l k os bs=some (i,o)→∃q,i=k+q∧os[q]?=some o
 | [],bs,k,h=>by simp [nxL] at h
 | x::os,[],k,h=>by simp [nxL] at h
 | x::os,b::bs,k,h=>by
  unfold nxL at h
  split at h
  ·have h:=Option.some.inj h
   exact ⟨0,by have:=congrArg Prod.fst h;simp at this;omega,by have:=congrArg Prod.snd h;simp at this;simp [this]⟩
  ·obtain ⟨q,h1,h2⟩:=nx_at os bs (k+1) h
   exact ⟨q+1,by omega,by simpa using h2⟩
theorem tn {P:Program} {md:Region.Mode} {ops:Array Oper} {Q:Exit→Act→World→Prop} {S:World→Prop} {i:Nat} {oi:Oper} {v:Value} {fuel:Nat} {listed:Array Bool} {a:Act} {w:World} (hn:nxL md listed.toList 0 ops.toList listed.toList=some (i,oi))
  (hr:(Region.noSelect ops&&(Region.free md ops listed i&&((Region.ready md ops listed).contains i&&Region.wanted oi (yielded ops a.tmps))))=true)
  (hQ:∀c a w,Q (.panic c) (a.put oi.dst v) w→Q (.panic c) a w) (hy:∀w,S w→(execOp a.eval oi).run P w=.ok (.value v) w) (hS:S w)
  (h:wpAnyH P md ops Q S fuel (listed.setIfInBounds i true) (a.put oi.dst v) w):wpAnyH P md ops Q S (fuel+1) listed a w:=by
 rw [Bool.and_eq_true,Bool.and_eq_true,Bool.and_eq_true] at hr
 obtain ⟨q,h1,h2⟩:=nx_at _ _ _ hn
 have hi:ops[i]?=some oi:=by rw [h1,Nat.zero_add,←Array.getElem?_toList];exact h2
 exact takeH hi rfl hr.1 hr.2.1 hr.2.2.1 hQ hr.2.2.2 hy hS h
theorem tk {P:Program} {md:Region.Mode} {ops:Array Oper} {Q:Exit→Act→World→Prop} {S:World→Prop} {i:Nat} {oi:Oper} {d:Option Tmp} {v:Value} {fuel:Nat} {listed:Array Bool} {a:Act} {w:World} (hi:ops[i]?=some oi) (hd:oi.dst=d)
  (hr:(Region.noSelect ops&&(Region.free md ops listed i&&(Region.ready md ops listed).contains i))=true)
  (hQ:∀c a w,Q (.panic c) (a.put oi.dst v) w→Q (.panic c) a w) (hw:Region.wanted oi (yielded ops a.tmps)=true) (hy:∀w,S w→(execOp a.eval oi).run P w=.ok (.value v) w) (hS:S w)
  (h:wpAnyH P md ops Q S fuel (listed.setIfInBounds i true) (a.put d v) w):wpAnyH P md ops Q S (fuel+1) listed a w:=by
 rw [Bool.and_eq_true,Bool.and_eq_true] at hr
 exact takeH hi hd hr.1 hr.2.1 hr.2.2 hQ hw hy hS h
theorem rd1 {P:Program} {md:Region.Mode} {ops:Array Oper} {Q:Exit→Act→World→Prop} {S:World→Prop} {fuel:Nat} {listed:Array Bool} {a:Act} {w:World} {i:Nat} {o:Oper} (hr:Region.ready md ops listed=[i]) (ho:ops[i]?=some o)
  (h:∀K':Act→World→Prop,Shut (∀a w,S w→(S w→wpAnyH P md ops Q S fuel (listed.setIfInBounds i true) a w)→K' a w)→if Region.wanted o (yielded ops a.tmps)=true then Oper.wp P o a w K' Q else K' (a.put o.dst undef) w):wpAnyH P md ops Q S (fuel+1) listed a w :=
 wpAnyH_ready hr (by simp) (AllReadyH.cons ho h AllReadyH.nil)
theorem aS (a:Act) (t:Tmp) (v:Value):a.put (some t) v={ a with tmps:=a.tmps.setIfInBounds t v }:=rfl
theorem aN (a:Act) (v:Value):a.put none v=a:=rfl
theorem aT {α:Type} (l:List α) (i:Nat) (x:α):l.toArray.setIfInBounds i x=(l.set i x).toArray:=List.setIfInBounds_toArray ..
theorem a0 {α:Type} (x y:α) (l:List α):(x::l).set 0 y=y::l:=rfl
theorem a1 {α:Type} (x y:α) (l:List α) (n:Nat):(x::l).set (n+1) y=x::l.set n y:=rfl
theorem aZ:(∀(a:Act) (t:Tmp) (v:Value),a.put (some t) v={ a with tmps:=a.tmps.setIfInBounds t v })∧(∀(a:Act) (v:Value),a.put none v=a)∧(∀{α:Type} (l:List α) (i:Nat) (x:α),l.toArray.setIfInBounds i x=(l.set i x).toArray)∧(∀{α:Type} (x y:α) (l:List α),(x::l).set 0 y=y::l)∧(∀{α:Type} (x y:α) (l:List α) (n:Nat),(x::l).set (n+1) y=x::l.set n y) :=
 ⟨aS,aN,aT,a0,a1⟩

section
open Go.Maps (Keyed has)
theorem mint_any (n:Int) (w:World):Calls Try.prog 100 #[.int .i64 n] w fun e w'=>e=.returned (mvV ⟨1,n⟩)∧Bl w w':=by
 go_enter Try.func100,Try.ntmps100
 go_wp2
 refine bodyPost_ret (results_cell_row rfl _ _ w.heap.size _ _ _ _ rfl (blk_new _ _ _) Try.underlying109 rfl info_mv) rfl ?_
 exact ⟨rfl,(Bl.refl w).alloc _⟩
theorem mlong_any (n:Int) (w:World):Calls Try.prog 99 #[.int .i64 n] w fun e w'=>e=.returned (mvV ⟨2,n⟩)∧Bl w w':=by
 go_enter Try.func99,Try.ntmps99
 go_wp2
 refine bodyPost_ret (results_cell_row rfl _ _ w.heap.size _ _ _ _ rfl (blk_new _ _ _) Try.underlying109 rfl info_mv) rfl ?_
 exact ⟨rfl,(Bl.refl w).alloc _⟩
theorem truth_any (b:Bool) (w:World):Calls Try.prog 141 #[.bool b] w fun e w'=>e=.returned (mvV ⟨1,if b=true then 1 else 0⟩)∧Bl w w':=by
 have HB:Hid (Bl w (w.alloc mvZ)):=(Bl.refl w).alloc _
 have HL:=hid (blk_new w #[.int .i64 0,.int .i64 0] 109)
 cases b
 ·go_enter Try.func141,Try.ntmps141
  go_wp2_with (go_at_call 100;refine (mint_any 0 _).mono ?_;rintro e w1 ⟨rfl,b1⟩;have q0:=bl_blk b1 HL.out;have c4:=c0_of q0;have c5:=c1_of q0;have fz:=free_blk q0;have b1:=hid b1;have q0:=hid q0)
  refine bodyPost_ret (results_cell_row rfl _ _ w.heap.size _ _ _ _ rfl (set_two q0.out) Try.underlying109 rfl info_mv) rfl ?_
  exact ⟨rfl,bl_two (HB.out.trans b1.out) (Nat.le_refl _) _ _⟩
 ·go_enter Try.func141,Try.ntmps141
  go_wp2_with (go_at_call 100;refine (mint_any 1 _).mono ?_;rintro e w1 ⟨rfl,b1⟩;have q0:=bl_blk b1 HL.out;have c4:=c0_of q0;have c5:=c1_of q0;have fz:=free_blk q0;have b1:=hid b1;have q0:=hid q0)
  refine bodyPost_ret (results_cell_row rfl _ _ w.heap.size _ _ _ _ rfl (set_two q0.out) Try.underlying109 rfl info_mv) rfl ?_
  exact ⟨rfl,bl_two (HB.out.trans b1.out) (Nat.le_refl _) _ _⟩
theorem info_ty2:(Try.prog.info? 54).map (·.size)=some 2:=by kernel_rfl
theorem refOf_any (n:Int) (w:World):Calls Try.prog 138 #[.int .i64 n] w fun e w'=>e=.returned (tyMV ⟨3,n⟩)∧Bl w w':=by
 go_enter Try.func138,Try.ntmps138
 go_wp2
 refine bodyPost_ret (results_cell_row rfl _ _ w.heap.size _ _ _ _ rfl (blk_new _ _ _) Try.underlying54 rfl info_ty2) rfl ?_
 exact ⟨rfl,(Bl.refl w).alloc _⟩
theorem info_int1:(Try.prog.info? 3).map (fun i=>(i.zero,i.size,i.bytes))=some (some (.int .i64 0),1,8):=by kernel_rfl
structure Eqv (h h':Hp):Prop where
 file:h'.file=h.file
 objs:h'.objs=h.objs
 input:h'.input=h.input
 fuel:h'.fuel=h.fuel
 out:h'.sh.out=h.sh.out
 used:h'.sh.used=h.sh.used
 steps:h'.sh.steps=h.sh.steps
theorem RH.eqv {s:Nat} {w0 w:World} {g:Mg} {h h':Hp} {qs:List Nat} {vc vo vx:Value} (H:RH s w0 g w h qs vc vo vx) (e:Eqv h h'):RH s w0 g w h' qs vc vo vx:=by
 have e1:runRow g h' vc vx=runRow g h vc vx:=by unfold runRow;rw [e.file,e.input,e.fuel,e.steps,e.used]
 have e2:heapRow g h' vo=heapRow g h vo:=by unfold heapRow;rw [e.file]
 refine ⟨H.ownr,H.ownh,H.ownm,H.bl,by rw [e1];exact H.run,by rw [e2];exact H.hp,by rw [e.out];exact H.out,by rw [e.objs];exact H.obs,H.calls,?_⟩
 obtain ⟨n,D,F⟩:=H.fld
 exact ⟨n,D,F.own,by rw [e.steps];exact F.few,by rw [e.objs];exact F.hit,by rw [e.objs,e.file];exact F.miss,by rw [e.objs];exact F.new,by rw [e.objs,e.file];exact F.ks,by rw [e.objs,e.file];exact F.kd⟩
theorem RX.eqv {s:Nat} {X:Nat→Prop} {wx w0 w:World} {g:Mg} {h h':Hp} {qs:List Nat} {a:Mc} {c:Cal} (H:RX s X wx w0 g w h qs a c) (e:Eqv h h'):RX s X wx w0 g w h' qs a c:=by
 obtain ⟨vc,vo,vx,vs,l,H⟩:=H
 exact ⟨vc,vo,vx,vs,l,H.rh.eqv e,H.ca,H.farr,H.farc,H.kept⟩
theorem RS.eqv {s:Nat} {X:Nat→Prop} {wx w0 w:World} {g:Mg} {h h':Hp} {qs:List Nat} {a:Mc} {c:Cal} (H:RS s X wx w0 g w h qs a c) (e:Eqv h h'):RS s X wx w0 g w h' qs a c:=by
 obtain ⟨d,e1,e2,H⟩:=H
 exact ⟨d,e1,e2,H.eqv e⟩
theorem fin_eqv (h:Hp) (e:Int):Eqv h (h.fin e):=by unfold Hp.fin;split<;>exact ⟨rfl,rfl,rfl,rfl,rfl,rfl,rfl⟩
def Hp.mk' (h:Hp) (c:Int):Hp:={ h with objs:=h.objs++[⟨c,newHeld h.file.classes c.toNat⟩] }
theorem newHeld_init {cs:List Cl} {c:Nat} {x:Hel} (hx:x∈newHeld cs c):x.v=initV (fieldT cs x.cls x.fld):=by
 unfold newHeld at hx
 rw [List.mem_flatMap] at hx
 obtain ⟨d,-,hd⟩:=hx
 unfold heldOf at hd
 split at hd
 ·rw [List.mem_map] at hd
  obtain ⟨k,-,rfl⟩:=hd
  unfold fieldT
  simp
 ·simp at hd
theorem nth_last {α:Type} {d:α} {l:List α} {x:α}:nth d (l++[x]) l.length=x:=by simp [nth]
theorem nth_front {α:Type} {d:α} {l:List α} {x:α} {i:Nat} (h:i<l.length):nth d (l++[x]) i=nth d l i:=by simp [nth,List.getD,List.getElem?_append_left h]
theorem FldAt.push {s:Nat} {w:World} {mp:Nat} {h:Hp} {n:Nat} {D:DataW Nat} (F:FldAt s w mp h n D) (c:Int) (hl100:h.objs.length≤100):FldAt s w mp (h.mk' c) n D:=by
 have hl:(h.mk' c).objs.length=h.objs.length+1:=by simp [Hp.mk']
 refine ⟨F.own,F.few,fun o cc k v ho ic ik hx hh=>?_,fun o cc k v ho ic ik hx hh=>?_,fun o cc k ho h100 ic ik=>F.new o cc k (by omega) h100 ic ik,fun o ho=>?_,fun o ho x hx=>?_⟩
 ·by_cases e:o<h.objs.length
  ·have e1:nth ob0 (h.mk' c).objs o=nth ob0 h.objs o:=nth_front e
   rw [e1] at hx
   exact F.hit o cc k v e ic ik hx hh
  ·rw [F.new o cc k (by omega) (by omega) ic ik] at hh
   exact absurd hh (by decide)
 ·by_cases e:o<h.objs.length
  ·have e1:nth ob0 (h.mk' c).objs o=nth ob0 h.objs o:=nth_front e
   rw [e1] at hx
   exact F.miss o cc k v e ic ik hx hh
  ·have e0:o=h.objs.length:=by omega
   subst e0
   have e1:nth ob0 (h.mk' c).objs h.objs.length=⟨c,newHeld h.file.classes c.toNat⟩:=nth_last
   rw [e1] at hx
   obtain ⟨x,hx1,rfl,rfl,rfl⟩:=hx
   exact newHeld_init hx1
 ·by_cases e:o<h.objs.length
  ·have e1:nth ob0 (h.mk' c).objs o=nth ob0 h.objs o:=nth_front e
   rw [e1]
   exact F.ks o e
  ·have e0:o=h.objs.length:=by omega
   subst e0
   have e1:nth ob0 (h.mk' c).objs h.objs.length=⟨c,newHeld h.file.classes c.toNat⟩:=nth_last
   rw [e1]
   rfl
 ·by_cases e:o<h.objs.length
  ·have e1:nth ob0 (h.mk' c).objs o=nth ob0 h.objs o:=nth_front e
   rw [e1] at hx
   exact F.kd o e x hx
  ·have e0:o=h.objs.length:=by omega
   subst e0
   have e1:nth ob0 (h.mk' c).objs h.objs.length=⟨c,newHeld h.file.classes c.toNat⟩:=nth_last
   rw [e1] at hx
   rw [newHeld_init hx]
   rfl
theorem RXA.objs {s:Nat} {X:Nat→Prop} {wx w0 w w2:World} {g:Mg} {h:Hp} {qs:List Nat} {a:Mc} {c:Cal} {vc vo vx vs v':Value} {l:List Va} (H:RXA s X wx w0 g w h qs a c vc vo vx vs l) (hg:w.grownBy w2 vo.ownBlock) {k:Int}
  (ho:w2.ownsRow w0.heap.size 3 1 v' (h.objs.length+1) (h.objs.map (fun o=>Value.int .i64 o.cls)++[.int .i64 k])) (hat:v'.ownBlock=vo.ownBlock∨∀b,v'.ownBlock=some b→w.heap.size≤b) (hl100:h.objs.length≤100) :
  RXA s X wx w0 g (w2.setCell ⟨g.hb,1,none⟩ v') (h.mk' k) qs a c vc v' vx vs l:=by
 have R:=H.rh
 obtain ⟨n,D,F⟩:=R.fld
 obtain ⟨fr,fh,fm,fc,fo,fx⟩:=H.ca.farC R
 have hrow:∀b,vo.ownBlock=some b→w0.heap.size≤b:=fun b e=>(R.obs.lt b e).1
 have n1:vo.ownBlock≠some g.r:=own_far R.obs R.run (by decide)
 have n2:vo.ownBlock≠some g.hb:=own_far R.obs R.hp (by decide)
 have n3:vo.ownBlock≠some g.mp:=map_row R.obs F.own
 have hp2:=grown_blk hg R.hp n2
 have hg2:=grown_set (w:=w2) g.hb 1 v'
 have nrh:(some g.hb:Option Nat)≠some g.r:=fun e=>blk_ne R.hp R.run (by decide) (Option.some.inj e)
 have hne:∀(vv:Value) {b e sz nn xs},w.ownsRow b e sz vv nn xs→e≠3→vv.ownBlock=none∨vv.ownBlock≠vo.ownBlock:=fun vv b e sz nn xs hr he=>row_ne hr R.obs he
 have C2:=H.ca.kept hg (fun b e=>fo b e)
 have hs2:w.heap.size≤w2.heap.size:=hg.size
 have far':∀b,X b→FarR g vc v' vx b:=fun b hx=>⟨(H.farr b hx).r,(H.farr b hx).h,(H.farr b hx).m,(H.farr b hx).c,fun e=>by
  rcases hat with q|q
  ·rw [q] at e;exact (H.farr b hx).o e
  ·have:=q b e;have:=(H.kept.blk b hx).1;have:=H.kept.size;omega,(H.farr b hx).x⟩
 refine ⟨⟨R.ownr,R.ownh,R.ownm,?_,?_,?_,?_,?_,?_,n,D,?_⟩,?_,far',H.farc,?_⟩
 ·exact Below.setCell (Below.grown R.bl hg R.bl.size hrow) R.ownh _
 ·exact grown_blk hg2 (grown_blk hg R.run n1) nrh
 ·rw [block_set hp2];rfl
 ·exact (R.out.kept hg (hne vx R.out (by decide))).kept hg2 (Or.inr (own_far (R.out.kept hg (hne vx R.out (by decide))) hp2 (by decide)))
 ·have:=ho.kept hg2 (Or.inr (own_far ho hp2 (by decide)))
  simpa [Hp.mk'] using this
 ·exact (R.calls.kept hg (hne vc R.calls (by decide))).kept hg2 (Or.inr (own_far (R.calls.kept hg (hne vc R.calls (by decide))) hp2 (by decide)))
 ·have F2:FldAt s (w2.setCell ⟨g.hb,1,none⟩ v') g.mp h n D:=⟨(F.own.kept hg (fun e=>n3 e.symm)).kept hg2 (fun e=>blk_ne hp2 hp2 (by intro;exact absurd (map_ne hp2 (F.own.kept hg (fun e=>n3 e.symm))) (fun q=>q (Option.some.inj e).symm)) rfl),F.few,F.hit,F.miss,F.new,F.ks,F.kd⟩
  exact F2.push k hl100
 ·exact C2.kept hg2 (fun b e=>by cases e;exact ⟨fh.q,fh.l,fh.s⟩)
 ·exact (H.kept.kept hg (fun b e hx=>(H.farr b hx).o e)).kept hg2 (fun b e hx=>by cases e;exact (H.farr _ hx).h rfl)
end
end Go.Proofs.Ytgiiapenmjollaa
