import Derived.Test.YtgiiapenmjollabGreatRlbf
import Derived.Test.YtgiiapenmjollabGreatRlbp
namespace Go.Proofs.YtgiiapenmjollabGreat
set_option linter.all false
set_option maxHeartbeats 40000000
set_option maxRecDepth 100000
open Go.RowKit
def RRY (s:Nat) (Z Y:Nat→Prop) (wx w0:World) (g:Mg) (w:World) (h:Hp) (L:List Kl):Prop :=
 ∃vc vo vx,RH s w0 g w h (qsL L) vc vo vx∧KsAt w0 g w L∧(∀b,Z b→FarR g vc vo vx b)∧(∀b,Z b→∀k∈L,FarC k.a k.vs b)∧KeptX Z wx w
  ∧ ∀b,Y b→b<w.heap.size∧w0.heap.size≤b∧¬Z b∧FarR g vc vo vx b∧∀k∈L,FarC k.a k.vs b
theorem RR.y {s:Nat} {Z:Nat→Prop} {wx w0 w:World} {g:Mg} {h:Hp} {L:List Kl} (H:RR s Z wx w0 g w h L):RRY s Z noY wx w0 g w h L:=by
 obtain ⟨vc,vo,vx,R,hl,z1,z2,K⟩:=H
 exact ⟨vc,vo,vx,R,hl,z1,z2,K,fun b hb=>absurd hb (fun x=>x)⟩
theorem RRY.x {s:Nat} {Z Y:Nat→Prop} {wx w0 w:World} {g:Mg} {h:Hp} {L:List Kl} (H:RRY s Z Y wx w0 g w h L):RR s Z wx w0 g w h L:=by
 obtain ⟨vc,vo,vx,R,hl,z1,z2,K,-⟩:=H
 exact ⟨vc,vo,vx,R,hl,z1,z2,K⟩
theorem RRY.less {s:Nat} {Z Y Y':Nat→Prop} {wx w0 w:World} {g:Mg} {h:Hp} {L:List Kl} (H:RRY s Z Y wx w0 g w h L) (hy:∀b,Y' b→Y b):RRY s Z Y' wx w0 g w h L:=by
 obtain ⟨vc,vo,vx,R,hl,z1,z2,K,F⟩:=H
 exact ⟨vc,vo,vx,R,hl,z1,z2,K,fun b hb=>F b (hy b hb)⟩
theorem RRY.bl {s:Nat} {Z Y:Nat→Prop} {wx w0 w w':World} {g:Mg} {h:Hp} {L:List Kl} (H:RRY s Z Y wx w0 g w h L) (hb:Bl w w'):RRY s Z (Xp Y w.heap.size w'.heap.size) wx w0 g w' h L:=by
 obtain ⟨vc,vo,vx,R,hl,z1,z2,K,F⟩:=H
 have hsz:=hb.size
 have h0:=R.bl.size
 refine ⟨vc,vo,vx,R.kept (grown_bl hb none) (fun b e=>by cases e),hl.same (fun b ho=>hb.block b (hl.lt ho)),z1,z2,K.kept (grown_bl hb none) (fun b e=>by cases e),fun b hy=>?_⟩
 rcases hy with hy|hy
 ·obtain ⟨h1,h2,h3,h4,h5⟩:=F b hy
  exact ⟨by omega,h2,h3,h4,h5⟩
 ·refine ⟨hy.2,by omega,fun hz=>?_,R.farNew hy.1,fun k hk=>(hl.mem hk).farNew hy.1⟩
  have:=(K.blk b hz).1;have:=K.size;omega
theorem RRY.set {s:Nat} {Z Y:Nat→Prop} {wx w0 w:World} {g:Mg} {h:Hp} {L:List Kl} (H:RRY s Z Y wx w0 g w h L) {b:Nat} (hb:Y b) (i:Nat) (v:Value):RRY s Z Y wx w0 g (w.setCell ⟨b,i,none⟩ v) h L:=by
 obtain ⟨vc,vo,vx,R,hl,z1,z2,K,F⟩:=H
 obtain ⟨h1,h2,h3,h4,h5⟩:=F b hb
 have hg:=grown_set (w:=w) b i v
 refine ⟨vc,vo,vx,R.kept hg (fun x e=>?_),hl.same (fun x ho=>?_),z1,z2,K.kept hg (fun x e hx=>?_),fun x hx=>?_⟩
 ·cases e;exact ⟨h2,h4⟩
 ·obtain ⟨k,hk,hko⟩:=ho
  refine block_far ?_ _
  rintro rfl
  have f:=h5 k hk
  rcases hko with e|e|e|e
  ·exact f.q e
  ·exact f.l e
  ·exact f.s e
  ·exact f.x e
 ·cases e;exact h3 hx
 ·obtain ⟨y1,y2⟩:=F x hx
  exact ⟨by simpa [World.setCell] using y1,y2⟩
theorem RRY.wide {s:Nat} {Z Y:Nat→Prop} {wx w0 w w':World} {g:Mg} {h:Hp} {L:List Kl} (H:RRY s Z Y wx w0 g w h L) (hb:Bl w w'):RR s (fun b=>Z b∨Xp Y w.heap.size w'.heap.size b) w' w0 g w' h L:=by
 obtain ⟨vc,vo,vx,R,hl,z1,z2,K,F⟩:=H.bl hb
 refine ⟨vc,vo,vx,R,hl,?_,?_,Nat.le_refl _,fun b hx=>⟨?_,rfl⟩⟩
 ·rintro b (hx|hx)
  ·exact z1 b hx
  ·exact (F b hx).2.2.2.1
 ·rintro b (hx|hx)
  ·exact z2 b hx
  ·exact (F b hx).2.2.2.2
 ·rcases hx with hx|hx
  ·have:=(K.blk b hx).1;have:=K.size;omega
  ·exact (F b hx).1
theorem RRY.back {s s':Nat} {Z Y:Nat→Prop} {wx w0 w w' w2:World} {g:Mg} {h h':Hp} {L L':List Kl} (H:RRY s Z Y wx w0 g w h L) (hb:Bl w w') (H2:RR s' (fun b=>Z b∨Xp Y w.heap.size w'.heap.size b) w' w0 g w2 h' L') :
  RRY s' Z (Xp Y w.heap.size w'.heap.size) wx w0 g w2 h' L'∧KpY (Xp Y w.heap.size w'.heap.size) w' w2:=by
 obtain ⟨vc,vo,vx,R,hl,z1,z2,K,F⟩:=H.bl hb
 obtain ⟨vc',vo',vx',R',hl',z1',z2',K'⟩:=H2
 refine ⟨⟨vc',vo',vx',R',hl',fun b hx=>z1' b (Or.inl hx),fun b hx=>z2' b (Or.inl hx),⟨Nat.le_trans K.size K'.size,fun b hx=>⟨(K.blk b hx).1,?_⟩⟩,fun b hy=>?_⟩,K'.size,fun b hy=>(K'.blk b (Or.inr hy)).2⟩
 ·rw [(K'.blk b (Or.inl hx)).2];exact (K.blk b hx).2
 ·obtain ⟨h1,h2,h3,h4,h5⟩:=F b hy
  exact ⟨Nat.lt_of_lt_of_le h1 K'.size,h2,h3,z1' b (Or.inr hy),z2' b (Or.inr hy)⟩
theorem att_stop (s s':Nat) (Z Y:Nat→Prop) (wx w0:World) (g:Mg) (h h':Hp) (L:List Kl) (PL:List Kl→Prop) (how k n:Int) (w:World) (H:RRY s Z Y wx w0 g w h L)
  (hs:∀Z wx w,RR s Z wx w0 g w h L→Calls Tryz.prog 152 #[.pointer (some ⟨g.r,0,none⟩)] w fun e w'=>e=stopE how k n∧∃L',PL L'∧RR s' Z wx w0 g w' h' L') :
  Calls Tryz.prog 151 #[.func (.func 152) #[.pointer (some ⟨g.r,0,none⟩)] #[]] w fun e w'=>e=.returned (.tuple #[.agg #[.int .i64 how,.int .i64 k,.int .i64 n],.bool true])∧(∃L',PL L'∧RRY s' Z Y wx w0 g w' h' L')∧KpY Y w w':=by
 have hb:Bl w ((w.alloc stopZ).alloc boolZ):=((Bl.refl w).alloc _).alloc _
 have hsz:((w.alloc stopZ).alloc boolZ).heap.size=w.heap.size+1+1:=by simp
 obtain ⟨n0,n1⟩:=two_lie w #[.int .i64 0,.int .i64 0,.int .i64 0] #[.bool false] 126 4
 have y0:Xp Y w.heap.size ((w.alloc stopZ).alloc boolZ).heap.size w.heap.size:=Or.inr ⟨Nat.le_refl _,by omega⟩
 have y1:Xp Y w.heap.size ((w.alloc stopZ).alloc boolZ).heap.size (w.heap.size+1):=Or.inr ⟨by omega,by omega⟩
 have hY:∀b,Y b→b<w.heap.size:=fun b hy=>by obtain ⟨vc,vo,vx,-,-,-,-,-,F⟩:=H;exact (F b hy).1
 refine (attempt_stop (.pointer (some ⟨g.r,0,none⟩)) how k n (fun w1=>(∃L',PL L'∧RRY s' Z (Xp Y w.heap.size ((w.alloc stopZ).alloc boolZ).heap.size) wx w0 g w1 h' L')∧KpY Y w w1) w ?_).mono ?_
 ·refine (hs _ _ _ (H.wide hb)).mono ?_
  rintro e w1 ⟨rfl,L',hp,H1⟩
  obtain ⟨H2,K2⟩:=H.back hb H1
  refine ⟨rfl,K2.at y0 n0,K2.at y1 n1,⟨L',hp,H2⟩,Nat.le_trans hb.size K2.size,fun b hy=>?_⟩
  rw [K2.blk b (Or.inl hy),hb.block b (hY b hy)]
 ·rintro e w' ⟨rfl,w1,⟨⟨L',hp,H1⟩,K1⟩,rfl⟩
  have H2:=(((H1.set y0 0 (.int .i64 how)).set y0 1 (.int .i64 k)).set y0 2 (.int .i64 n)).set y1 0 (.bool true)
  have hbl:=(Bl.refl ((((w1.setCell ⟨w.heap.size,0,none⟩ (.int .i64 how)).setCell ⟨w.heap.size,1,none⟩ (.int .i64 k)).setCell ⟨w.heap.size,2,none⟩ (.int .i64 n)).setCell ⟨w.heap.size+1,0,none⟩ (.bool true))).alloc (.cells #[.int .i64 how,.int .i64 k,.int .i64 n] 126)
  have H3:=H2.bl hbl
  have hs1:=K1.size
  refine ⟨rfl,⟨L',hp,H3.less (fun b hy=>Or.inl (Or.inl hy))⟩,by simp [World.setCell];omega,fun b hy=>?_⟩
  have hlt:=hY b hy
  rw [hbl.block b (by simp [World.setCell];omega),block_far (by omega),block_far (by omega),block_far (by omega),block_far (by omega)]
  exact K1.blk b hy
theorem att_done (s s':Nat) (Z Y:Nat→Prop) (wx w0:World) (g:Mg) (h h':Hp) (L:List Kl) (PL:List Kl→Prop) (w:World) (H:RRY s Z Y wx w0 g w h L)
  (hs:∀Z wx w,RR s Z wx w0 g w h L→Calls Tryz.prog 152 #[.pointer (some ⟨g.r,0,none⟩)] w fun e w'=>e=.returned (.tuple #[])∧∃L',PL L'∧RR s' Z wx w0 g w' h' L') :
  Calls Tryz.prog 151 #[.func (.func 152) #[.pointer (some ⟨g.r,0,none⟩)] #[]] w fun e w'=>e=.returned (.tuple #[.agg #[.int .i64 0,.int .i64 0,.int .i64 0],.bool false])∧(∃L',PL L'∧RRY s' Z Y wx w0 g w' h' L')∧KpY Y w w':=by
 have hb:Bl w ((w.alloc stopZ).alloc boolZ):=((Bl.refl w).alloc _).alloc _
 have hsz:((w.alloc stopZ).alloc boolZ).heap.size=w.heap.size+1+1:=by simp
 obtain ⟨n0,n1⟩:=two_lie w #[.int .i64 0,.int .i64 0,.int .i64 0] #[.bool false] 126 4
 have y0:Xp Y w.heap.size ((w.alloc stopZ).alloc boolZ).heap.size w.heap.size:=Or.inr ⟨Nat.le_refl _,by omega⟩
 have y1:Xp Y w.heap.size ((w.alloc stopZ).alloc boolZ).heap.size (w.heap.size+1):=Or.inr ⟨by omega,by omega⟩
 have hY:∀b,Y b→b<w.heap.size:=fun b hy=>by obtain ⟨vc,vo,vx,-,-,-,-,-,F⟩:=H;exact (F b hy).1
 refine (attempt_done (.pointer (some ⟨g.r,0,none⟩)) (fun w1=>(∃L',PL L'∧RRY s' Z (Xp Y w.heap.size ((w.alloc stopZ).alloc boolZ).heap.size) wx w0 g w1 h' L')∧KpY Y w w1) w ?_).mono ?_
 ·refine (hs _ _ _ (H.wide hb)).mono ?_
  rintro e w1 ⟨rfl,L',hp,H1⟩
  obtain ⟨H2,K2⟩:=H.back hb H1
  refine ⟨rfl,K2.at y0 n0,K2.at y1 n1,⟨L',hp,H2⟩,Nat.le_trans hb.size K2.size,fun b hy=>?_⟩
  rw [K2.blk b (Or.inl hy),hb.block b (hY b hy)]
 ·rintro e w' ⟨rfl,w1,⟨⟨L',hp,H1⟩,K1⟩,rfl⟩
  have H2:=(((H1.set y0 0 (.int .i64 0)).set y0 1 (.int .i64 0)).set y0 2 (.int .i64 0)).set y1 0 (.bool false)
  have hs1:=K1.size
  refine ⟨rfl,⟨L',hp,H2.less (fun b hy=>Or.inl hy)⟩,by simp [World.setCell];omega,fun b hy=>?_⟩
  have hlt:=hY b hy
  rw [block_far (by omega),block_far (by omega),block_far (by omega),block_far (by omega)]
  exact K1.blk b hy
theorem attU_stop (s s':Nat) (Z Y:Nat→Prop) (wx w0:World) (g:Mg) (h h':Hp) (L:List Kl) (PL:List Kl→Prop) (x y:Value) (how k n:Int) (w:World) (H:RRY s Z Y wx w0 g w h L)
  (hs:∀Z' wx' w',(∀b,Y b→w'.heap[b]?=w.heap[b]?)→RR s Z' wx' w0 g w' h L→Calls Tryz.prog 153 #[x,y] w' fun e w2=>e=stopE how k n∧∃L',PL L'∧RR s' Z' wx' w0 g w2 h' L') :
  Calls Tryz.prog 151 #[.func (.func 153) #[] #[x,y]] w fun e w'=>e=.returned (.tuple #[.agg #[.int .i64 how,.int .i64 k,.int .i64 n],.bool true])∧(∃L',PL L'∧RRY s' Z Y wx w0 g w' h' L')∧KpY Y w w':=by
 have hb:Bl w ((w.alloc stopZ).alloc boolZ):=((Bl.refl w).alloc _).alloc _
 have hsz:((w.alloc stopZ).alloc boolZ).heap.size=w.heap.size+1+1:=by simp
 obtain ⟨n0,n1⟩:=two_lie w #[.int .i64 0,.int .i64 0,.int .i64 0] #[.bool false] 126 4
 have y0:Xp Y w.heap.size ((w.alloc stopZ).alloc boolZ).heap.size w.heap.size:=Or.inr ⟨Nat.le_refl _,by omega⟩
 have y1:Xp Y w.heap.size ((w.alloc stopZ).alloc boolZ).heap.size (w.heap.size+1):=Or.inr ⟨by omega,by omega⟩
 have hY:∀b,Y b→b<w.heap.size:=fun b hy=>by obtain ⟨vc,vo,vx,-,-,-,-,-,F⟩:=H;exact (F b hy).1
 refine (attemptU_stop x y how k n (fun w1=>(∃L',PL L'∧RRY s' Z (Xp Y w.heap.size ((w.alloc stopZ).alloc boolZ).heap.size) wx w0 g w1 h' L')∧KpY Y w w1) w ?_).mono ?_
 ·refine (hs _ _ _ (fun b hy=>hb.block b (hY b hy)) (H.wide hb)).mono ?_
  rintro e w1 ⟨rfl,L',hp,H1⟩
  obtain ⟨H2,K2⟩:=H.back hb H1
  refine ⟨rfl,K2.at y0 n0,K2.at y1 n1,⟨L',hp,H2⟩,Nat.le_trans hb.size K2.size,fun b hy=>?_⟩
  rw [K2.blk b (Or.inl hy),hb.block b (hY b hy)]
 ·rintro e w' ⟨rfl,w1,⟨⟨L',hp,H1⟩,K1⟩,rfl⟩
  have H2:=(((H1.set y0 0 (.int .i64 how)).set y0 1 (.int .i64 k)).set y0 2 (.int .i64 n)).set y1 0 (.bool true)
  have hbl:=(Bl.refl ((((w1.setCell ⟨w.heap.size,0,none⟩ (.int .i64 how)).setCell ⟨w.heap.size,1,none⟩ (.int .i64 k)).setCell ⟨w.heap.size,2,none⟩ (.int .i64 n)).setCell ⟨w.heap.size+1,0,none⟩ (.bool true))).alloc (.cells #[.int .i64 how,.int .i64 k,.int .i64 n] 126)
  have H3:=H2.bl hbl
  have hs1:=K1.size
  refine ⟨rfl,⟨L',hp,H3.less (fun b hy=>Or.inl (Or.inl hy))⟩,by simp [World.setCell];omega,fun b hy=>?_⟩
  have hlt:=hY b hy
  rw [hbl.block b (by simp [World.setCell];omega),block_far (by omega),block_far (by omega),block_far (by omega),block_far (by omega)]
  exact K1.blk b hy
theorem attU_done (s s':Nat) (Z Y:Nat→Prop) (wx w0:World) (g:Mg) (h h':Hp) (L:List Kl) (PL:List Kl→Prop) (x y:Value) (w:World) (H:RRY s Z Y wx w0 g w h L)
  (hs:∀Z' wx' w',(∀b,Y b→w'.heap[b]?=w.heap[b]?)→RR s Z' wx' w0 g w' h L→Calls Tryz.prog 153 #[x,y] w' fun e w2=>e=.returned (.tuple #[])∧∃L',PL L'∧RR s' Z' wx' w0 g w2 h' L') :
  Calls Tryz.prog 151 #[.func (.func 153) #[] #[x,y]] w fun e w'=>e=.returned (.tuple #[.agg #[.int .i64 0,.int .i64 0,.int .i64 0],.bool false])∧(∃L',PL L'∧RRY s' Z Y wx w0 g w' h' L')∧KpY Y w w':=by
 have hb:Bl w ((w.alloc stopZ).alloc boolZ):=((Bl.refl w).alloc _).alloc _
 have hsz:((w.alloc stopZ).alloc boolZ).heap.size=w.heap.size+1+1:=by simp
 obtain ⟨n0,n1⟩:=two_lie w #[.int .i64 0,.int .i64 0,.int .i64 0] #[.bool false] 126 4
 have y0:Xp Y w.heap.size ((w.alloc stopZ).alloc boolZ).heap.size w.heap.size:=Or.inr ⟨Nat.le_refl _,by omega⟩
 have y1:Xp Y w.heap.size ((w.alloc stopZ).alloc boolZ).heap.size (w.heap.size+1):=Or.inr ⟨by omega,by omega⟩
 have hY:∀b,Y b→b<w.heap.size:=fun b hy=>by obtain ⟨vc,vo,vx,-,-,-,-,-,F⟩:=H;exact (F b hy).1
 refine (attemptU_done x y (fun w1=>(∃L',PL L'∧RRY s' Z (Xp Y w.heap.size ((w.alloc stopZ).alloc boolZ).heap.size) wx w0 g w1 h' L')∧KpY Y w w1) w ?_).mono ?_
 ·refine (hs _ _ _ (fun b hy=>hb.block b (hY b hy)) (H.wide hb)).mono ?_
  rintro e w1 ⟨rfl,L',hp,H1⟩
  obtain ⟨H2,K2⟩:=H.back hb H1
  refine ⟨rfl,K2.at y0 n0,K2.at y1 n1,⟨L',hp,H2⟩,Nat.le_trans hb.size K2.size,fun b hy=>?_⟩
  rw [K2.blk b (Or.inl hy),hb.block b (hY b hy)]
 ·rintro e w' ⟨rfl,w1,⟨⟨L',hp,H1⟩,K1⟩,rfl⟩
  have H2:=(((H1.set y0 0 (.int .i64 0)).set y0 1 (.int .i64 0)).set y0 2 (.int .i64 0)).set y1 0 (.bool false)
  have hs1:=K1.size
  refine ⟨rfl,⟨L',hp,H2.less (fun b hy=>Or.inl hy)⟩,by simp [World.setCell];omega,fun b hy=>?_⟩
  have hlt:=hY b hy
  rw [block_far (by omega),block_far (by omega),block_far (by omega),block_far (by omega)]
  exact K1.blk b hy
theorem clos_any (s:Nat) (Z:Nat→Prop) (wx w0:World) (g:Mg) (h:Hp) (L:List Kl) (v:Va) (rb tb:Nat) (w:World) (H:RR s Z wx w0 g w h L) (F:Fix w0 g h) (hf:h.objs.length≤100) (hv:v.kind=3) (h0:0≤v.n) (hn:v.n<h.objs.length) (ht:h.thrown=v.n) (hok:∀k∈L,HandOk k.c) (hlen:L.length≤1000)
  (c0:w.cell? ⟨rb,0,none⟩=some (.pointer (some ⟨g.r,0,none⟩))) (c1:w.cell? ⟨tb,0,none⟩=some (.int .i64 (im v).kind)) (c2:w.cell? ⟨tb,1,none⟩=some (.int .i64 (im v).n)) :
  Calls Tryz.prog 153 #[.pointer (some ⟨rb,0,none⟩),.pointer (some ⟨tb,0,none⟩)] w fun e w'=>UnQ s Z wx w0 g (unwM h (L.map (·.c))) e w':=by
 have HU:=hid (unwind_any s Z wx w0 g h L v w H F hf hv h0 hn ht hok hlen)
 obtain ⟨o,ho⟩:∃o,unwM h (L.map (·.c))=o:=⟨_,rfl⟩
 rw [ho] at HU ⊢
 clear H F hf hv h0 hn ht hok hlen ho
 cases hfin:o.fin with
 | false =>
  have HFI:=hid hfin
  clear hfin
  go_enter Tryz.func153,Tryz.ntmps153
  go_wp2_with (go_at_call 154;refine Calls.mono HU.out ?_;rintro e w1 hq;obtain ⟨rfl,hr⟩:=hq.1 HFI.out;replace hr:=hid hr;clear hq)
  go_end0
  exact ⟨fun _=>⟨rfl,hr.out⟩,fun z=>by rw [HFI.out] at z;cases z⟩
 | true =>
  have HFI:=hid hfin
  clear hfin
  go_enter Tryz.func153,Tryz.ntmps153
  go_wp2_with (go_at_call 154;refine Calls.mono HU.out ?_;rintro e w1 hq;obtain ⟨rfl,hr⟩:=hq.2 HFI.out;replace hr:=hid hr;clear hq)
  exact ⟨rfl,⟨(fun z=>by rw [HFI.out] at z;cases z),fun _=>⟨rfl,hr.out⟩⟩⟩
def leftC (r:Nat) (w:World):Nat:=match w.cell? ⟨r,5,none⟩,w.cell? ⟨r,6,none⟩ with
 | some (.int _ a),some (.int _ b)=>(a-b).toNat
 | _,_=>0
theorem leftC_rr {s:Nat} {Z:Nat→Prop} {wx w0 w:World} {g:Mg} {h:Hp} {L:List Kl} (H:RR s Z wx w0 g w h L):leftC g.r w=(h.fuel-h.sh.steps).toNat:=by
 unfold leftC
 rw [H.hx.c56.1,H.hx.c56.2.1]
abbrev stepC (w:World) (g:Mg) (Q:Ending→World→Prop):Prop:=Calls Tryz.prog 152 #[.pointer (some ⟨g.r,0,none⟩)] w Q
def StA (I:Nat→Hp→List Cal→Prop) (w0:World) (g:Mg) (n:Nat) (h:Hp) (L:List Kl):Prop :=
 ∃n' h' cs',runM n h (L.map (·.c))=runM n' h' cs'∧I n' h' cs'∧(h'.fuel-h'.sh.steps).toNat<(h.fuel-h.sh.steps).toNat
  ∧ ∀Z wx w,RR 0 Z wx w0 g w h L→stepC w g fun e w'=>e=.returned (.tuple #[])∧∃L':List Kl,L'.map (·.c)=cs'∧RR 0 Z wx w0 g w' h' L'
def StB (w0:World) (g:Mg) (n:Nat) (h:Hp) (L:List Kl):Prop :=
 ∃how v h',runM n h (L.map (·.c))=endM how v h'∧how≠2
  ∧ ∀Z wx w,RR 0 Z wx w0 g w h L→stepC w g fun e w'=>e=stopE how (im v).kind (im v).n∧∃L':List Kl,True∧RR 0 Z wx w0 g w' h' L'
def StC (I:Nat→Hp→List Cal→Prop) (w0:World) (g:Mg) (n:Nat) (h:Hp) (L:List Kl):Prop :=
 ∃n' h1 o1,∃v:Va,runM n h (L.map (·.c))=(if o1.fin=true then o1 else runM n' o1.h o1.cs)∧(o1.fin=false→I n' o1.h o1.cs∧(o1.h.fuel-o1.h.sh.steps).toNat<(h.fuel-h.sh.steps).toNat)
  ∧ (v.kind=3∧0≤v.n∧v.n<h1.objs.length∧h1.thrown=v.n)∧Fix w0 g h1∧h1.objs.length≤100
  ∧ ∀Z wx w,RR 0 Z wx w0 g w h L→stepC w g fun e w'=>e=stopE 2 3 (v.n+1)∧∃L1:List Kl,(unwM h1 (L1.map (·.c))=o1∧(∀k∈L1,HandOk k.c)∧L1.length≤1000)∧RR 0 Z wx w0 g w' h1 L1
def StepOk (I:Nat→Hp→List Cal→Prop) (w0:World) (g:Mg):Prop:=∀n h L,I n h (L.map (·.c))→StA I w0 g n h L∨StB w0 g n h L∨StC I w0 g n h L
abbrev rbO (g:Mg):Obj:=.cells #[.pointer (some ⟨g.r,0,none⟩)] 102
def tilY (n:Nat):Nat→Prop:=fun b=>b=n∨b=n+1
def TilR (I:Nat→Hp→List Cal→Prop) (Z:Nat→Prop) (wx w0:World) (g:Mg) (o:Mo) (n0:Nat) (wr:World):Prop :=
 ∃n h,∃L:List Kl,o=runM n h (L.map (·.c))∧I n h (L.map (·.c))∧RRY 0 Z (tilY n0) wx w0 g wr h L∧wr.heap[n0]?=some (rbO g)∧wr.heap[n0+1]?=some stopZ
def TilQ (Z:Nat→Prop) (wx w0:World) (g:Mg) (o:Mo) (e:Ending) (w':World):Prop :=
 e=.returned (.agg #[.int .i64 o.how,.int .i64 (im o.v).kind,.int .i64 (im o.v).n])∧∃L':List Kl,RR 0 Z wx w0 g w' o.h L'
theorem info_stop:(Tryz.prog.info? 126).map (·.size)=some 3:=by kernel_rfl
theorem set_3c {w:World} {b:Nat} {u0 u1 u2:Value} {t:TypeId} (h:w.heap[b]?=some (.cells #[u0,u1,u2] t (0,0))) (v0 v1 v2:Value):(((w.setCell ⟨b,0,none⟩ v0).setCell ⟨b,1,none⟩ v1).setCell ⟨b,2,none⟩ v2).heap[b]?=some (.cells #[v0,v1,v2] t (0,0)):=by
 rw [block_set (block_set (block_set h _) _)];rfl
theorem until_any (I:Nat→Hp→List Cal→Prop) (Z:Nat→Prop) (wx w0:World) (g:Mg) (n:Nat) (h:Hp) (L:List Kl) (w:World) (H:RR 0 Z wx w0 g w h L) (hI:I n h (L.map (·.c))) (hS:StepOk I w0 g) :
  Calls Tryz.prog 74 #[.pointer (some ⟨g.r,0,none⟩)] w fun e w'=>TilQ Z wx w0 g (runM n h (L.map (·.c))) e w':=by
 have HS:=hid hS
 have hmf:∀(fn:Fn) (first cap:Array Value) (w:World),(Instr.makeFunc fn first cap).run Tryz.prog w=.ok (.func fn first cap) w:=fun _ _ _ _=>rfl
 obtain ⟨o,ho⟩:∃o,runM n h (L.map (·.c))=o:=⟨_,rfl⟩
 have HR0:Hid (TilR I Z wx w0 g o w.heap.size ((w.alloc (rbO g)).alloc stopZ)):=by
  obtain ⟨n0,n1⟩:=two_lie w #[.pointer (some ⟨g.r,0,none⟩)] #[.int .i64 0,.int .i64 0,.int .i64 0] 102 126
  refine ⟨n,h,L,ho.symm,hI,(H.y.bl (((Bl.refl w).alloc _).alloc _)).less (fun b hb=>Or.inr ?_),n0,n1⟩
  rcases hb with rfl|rfl
  ·exact ⟨Nat.le_refl _,by simp;omega⟩
  ·exact ⟨by omega,by simp⟩
 rw [ho]
 clear H hI hS ho
 go_enter Tryz.func74,Tryz.ntmps74
 go_wp2
 go_loopw [] (fun wr=>Hid (TilR I Z wx w0 g o w.heap.size wr)) (fun wr=>leftC g.r wr)
 case atStart=>exact HR0.out
 case round =>
  clear HR0
  obtain ⟨n,h,L,ho,hI,hr,hrb,hst⟩:=hrel.out
  clear hrel
  have c0:wr.cell? ⟨w.heap.size,0,none⟩=some (.pointer (some ⟨g.r,0,none⟩)):=(cell_blk hrb).trans rfl
  have HO:=hid ho
  have HR:=hid hr
  have HRB:=hid hrb
  have HST:=hid hst
  rcases HS.out n h L hI with hA|hB|hC
  ·obtain ⟨n',h',cs',e1,e2,e3,e4⟩:=hA
   have HA:=hid e4
   have HE:Hid (o=runM n' h' cs'∧I n' h' cs'∧(h'.fuel-h'.sh.steps).toNat<(h.fuel-h.sh.steps).toNat):=⟨ho.trans e1,e2,e3⟩
   clear e1 e2 e3 e4 ho hI hr hrb hst
   go_wp2_with (go_at_call 151;refine (att_done 0 0 Z (tilY w.heap.size) wx w0 g h h' L (fun L'=>L'.map (·.c)=cs') wr HR.out HA.out).mono ?_;rintro e w1 ⟨rfl,⟨L',hp,H1⟩,K1⟩;have b1:=K1.at (Or.inl rfl) HRB.out;have b2:=K1.at (Or.inr rfl) HST.out;replace H1:=hid H1;replace hp:=hid hp;replace b1:=hid b1;replace b2:=hid b2;clear K1)
   go_roundw
   case rel =>
    obtain ⟨q1,q2,q3⟩:=HE.out
    refine ⟨n',h',L',by rw [hp.out];exact q1,by rw [hp.out];exact q2,(H1.out.bl ((Bl.refl w1).alloc _)).less (fun b hb=>Or.inl hb),bl_blk ((Bl.refl w1).alloc _) b1.out,bl_blk ((Bl.refl w1).alloc _) b2.out⟩
   case measure =>
    have m1:=leftC_rr HR.out.x
    have m2:=leftC_rr (H1.out.x.bl ((Bl.refl w1).alloc (.cells #[.int .i64 0,.int .i64 0,.int .i64 0] 126)))
    have m3:=HE.out.2.2
    omega
  ·obtain ⟨how,v,h',e1,e2,e3⟩:=hB
   have HB:=hid e3
   have HE:Hid (o=endM how v h'):=ho.trans e1
   have hw2:(how==2)=false:=by simpa using e2
   clear e1 e2 e3 ho hI hr hrb hst
   go_wp2_with (go_at_call 151;refine (att_stop 0 0 Z (tilY w.heap.size) wx w0 g h h' L (fun _=>True) how (im v).kind (im v).n wr HR.out HB.out).mono ?_;rintro e w1 ⟨rfl,⟨L',-,H1⟩,K1⟩;have b2:=K1.at (Or.inr rfl) HST.out;have hlt:=lt_some b2;have fz:=free_blk b2;have y0:w1.cell? ⟨w.heap.size+1,0,none⟩=some (.int .i64 0):=(cell_blk b2).trans rfl;have y1:w1.cell? ⟨w.heap.size+1,1,none⟩=some (.int .i64 0):=(cell_blk b2).trans rfl;have y2:w1.cell? ⟨w.heap.size+1,2,none⟩=some (.int .i64 0):=(cell_blk b2).trans rfl;replace H1:=hid H1;replace b2:=hid b2;clear K1)
   refine bodyPost_ret (results_cell_row rfl _ _ (w.heap.size+1) _ _ _ _ rfl (bl_blk ((Bl.refl _).alloc _) (set_3c b2.out _ _ _)) Tryz.underlying126 rfl info_stop) rfl ?_
   rw [HE.out]
   exact ⟨rfl,L',(((H1.out.set (Or.inr rfl) 0 _).set (Or.inr rfl) 1 _).set (Or.inr rfl) 2 _).x.bl ((Bl.refl _).alloc _)⟩
  ·obtain ⟨n',h1,o1,v,e1,e2,e3,e4,e5,e8⟩:=hC
   have HC:=hid e8
   have HE:Hid (o=(if o1.fin=true then o1 else runM n' o1.h o1.cs)∧(o1.fin=false→I n' o1.h o1.cs∧(o1.h.fuel-o1.h.sh.steps).toNat<(h.fuel-h.sh.steps).toNat)):=⟨ho.trans e1,e2⟩
   have HV:=hid e3
   have HF:Hid (Fix w0 g h1∧h1.objs.length≤100):=⟨e4,e5⟩
   clear e1 e2 e3 e4 e5 e8 ho hI hr hrb hst
   have HK:Hid (∀(w1:World) (L1:List Kl),(unwM h1 (L1.map (·.c))=o1∧(∀k∈L1,HandOk k.c)∧L1.length≤1000)→∀Z' wx' w',w'.cell? ⟨w.heap.size,0,none⟩=some (.pointer (some ⟨g.r,0,none⟩))→w'.cell? ⟨w1.heap.size+1,0,none⟩=some (.int .i64 3)→w'.cell? ⟨w1.heap.size+1,1,none⟩=some (.int .i64 (v.n+1))→RR 0 Z' wx' w0 g w' h1 L1 →
     Calls Tryz.prog 153 #[.pointer (some ⟨w.heap.size,0,none⟩),.pointer (some ⟨w1.heap.size+1,0,none⟩)] w' fun e w2=>UnQ 0 Z' wx' w0 g o1 e w2):=fun w1 L1 hL1 Z' wx' w' k0 k1 k2 hr=>by
    obtain ⟨v1,v2,v3,v4⟩:=HV.out
    have ei:im v=⟨3,v.n+1⟩:=im_ref v1
    have:=clos_any 0 Z' wx' w0 g h1 L1 v w.heap.size (w1.heap.size+1) w' hr HF.out.1 HF.out.2 v1 v2 v3 v4 hL1.2.1 hL1.2.2 k0 (by rw [ei];exact k1) (by rw [ei];exact k2)
    rwa [hL1.1] at this
   cases hfin:o1.fin with
   | false =>
    have HFI:=hid hfin
    clear hfin
    go_wp2_with (first
     | (have:=H1;go_at_call 151;refine (attU_done 0 0 Z (Xp (tilY w.heap.size) w1.heap.size ((w1.alloc (.cells #[.int .i64 2,.int .i64 3,.int .i64 (v.n+1)] 126)).alloc (.cells #[.int .i64 3,.int .i64 (v.n+1)] 115)).heap.size) wx w0 g h1 o1.h L1 (fun L'=>L'.map (·.c)=o1.cs) _ _ _ (H1.out.bl (((Bl.refl w1).alloc _).alloc _)) (fun Z' wx' w' hkp hr=>(HK.out w1 L1 hp.out Z' wx' w' ((cell_blk ((hkp _ (Xp.old (Or.inl rfl))).trans (bl_blk (((Bl.refl w1).alloc _).alloc _) b1.out))).trans rfl) ((cell_blk ((hkp _ (Xp.new (Nat.le_succ _) (lt_w2b w1 _ _))).trans HT.out.2)).trans rfl) ((cell_blk ((hkp _ (Xp.new (Nat.le_succ _) (lt_w2b w1 _ _))).trans HT.out.2)).trans rfl) hr).mono (fun e w2 hq=>hq.1 HFI.out))).mono ?_;rintro e w2 ⟨rfl,⟨L',hp',H2⟩,K2⟩;have s1:=K2.at (Xp.new (Nat.le_refl _) (lt_w2a w1 _ _)) HT.out.1;have r1:=K2.at (Xp.old (Or.inl rfl)) (bl_blk (((Bl.refl w1).alloc _).alloc _) b1.out);have r2:=K2.at (Xp.old (Or.inr rfl)) (bl_blk (((Bl.refl w1).alloc _).alloc _) b2.out);have fz:=free_blk s1;have y0:w2.cell? ⟨w1.heap.size,0,none⟩=some (.int .i64 2):=(cell_blk s1).trans rfl;have y1:w2.cell? ⟨w1.heap.size,1,none⟩=some (.int .i64 3):=(cell_blk s1).trans rfl;have y2:w2.cell? ⟨w1.heap.size,2,none⟩=some (.int .i64 (v.n+1)):=(cell_blk s1).trans rfl;replace H2:=hid H2;replace hp':=hid hp';replace s1:=hid s1;replace r1:=hid r1;replace r2:=hid r2;clear K2)
     | (go_at_call 151;refine (att_stop 0 0 Z (tilY w.heap.size) wx w0 g h h1 L (fun L'=>unwM h1 (L'.map (·.c))=o1∧(∀k∈L',HandOk k.c)∧L'.length≤1000) 2 3 (v.n+1) wr HR.out HC.out).mono ?_;rintro e w1 ⟨rfl,⟨L1,hp,H1⟩,K1⟩;have b1:=K1.at (Or.inl rfl) HRB.out;have b2:=K1.at (Or.inr rfl) HST.out;have hl1:=lt_some b1;have hl2:=lt_some b2;have HT:=hid (two_lie w1 #[.int .i64 2,.int .i64 3,.int .i64 (v.n+1)] #[.int .i64 3,.int .i64 (v.n+1)] 126 115);replace H1:=hid H1;replace hp:=hid hp;replace b1:=hid b1;replace b2:=hid b2;clear K1))
    go_roundw
    case rel =>
     obtain ⟨q1,q2⟩:=HE.out
     rw [HFI.out,if_neg (by decide)] at q1
     have hy:(Xp (tilY w.heap.size) w1.heap.size ((w1.alloc (.cells #[.int .i64 2,.int .i64 3,.int .i64 (v.n+1)] 126)).alloc (.cells #[.int .i64 3,.int .i64 (v.n+1)] 115)).heap.size) w1.heap.size:=Xp.new (Nat.le_refl _) (lt_w2a w1 _ _)
     refine ⟨n',o1.h,L',by rw [hp'.out];exact q1,by rw [hp'.out];exact (q2 HFI.out).1,(((H2.out.set hy 0 _).set hy 1 _).set hy 2 _).less (fun b hb=>Or.inl hb),?_,?_⟩
     ·rw [block_far (by omega),block_far (by omega),block_far (by omega)];exact r1.out
     ·rw [block_far (by omega),block_far (by omega),block_far (by omega)];exact r2.out
    case measure =>
     have hy:(Xp (tilY w.heap.size) w1.heap.size ((w1.alloc (.cells #[.int .i64 2,.int .i64 3,.int .i64 (v.n+1)] 126)).alloc (.cells #[.int .i64 3,.int .i64 (v.n+1)] 115)).heap.size) w1.heap.size:=Xp.new (Nat.le_refl _) (lt_w2a w1 _ _)
     have m1:=leftC_rr HR.out.x
     have m2:=leftC_rr (((H2.out.set hy 0 (.int .i64 0)).set hy 1 (.int .i64 0)).set hy 2 (.int .i64 0)).x
     have m3:=(HE.out.2 HFI.out).2
     omega
   | true =>
    have HFI:=hid hfin
    clear hfin
    go_wp2_with (first
     | (have:=H1;go_at_call 151;refine (attU_stop 0 0 Z (Xp (tilY w.heap.size) w1.heap.size ((w1.alloc (.cells #[.int .i64 2,.int .i64 3,.int .i64 (v.n+1)] 126)).alloc (.cells #[.int .i64 3,.int .i64 (v.n+1)] 115)).heap.size) wx w0 g h1 o1.h L1 (fun _=>True) _ _ o1.how (im o1.v).kind (im o1.v).n _ (H1.out.bl (((Bl.refl w1).alloc _).alloc _)) (fun Z' wx' w' hkp hr=>(HK.out w1 L1 hp.out Z' wx' w' ((cell_blk ((hkp _ (Xp.old (Or.inl rfl))).trans (bl_blk (((Bl.refl w1).alloc _).alloc _) b1.out))).trans rfl) ((cell_blk ((hkp _ (Xp.new (Nat.le_succ _) (lt_w2b w1 _ _))).trans HT.out.2)).trans rfl) ((cell_blk ((hkp _ (Xp.new (Nat.le_succ _) (lt_w2b w1 _ _))).trans HT.out.2)).trans rfl) hr).mono (fun e w2 hq=>⟨(hq.2 HFI.out).1,by obtain ⟨L',hL'⟩:=(hq.2 HFI.out).2;exact ⟨L',trivial,hL'⟩⟩))).mono ?_;rintro e w2 ⟨rfl,⟨L',-,H2⟩,K2⟩;have s1:=K2.at (Xp.new (Nat.le_refl _) (lt_w2a w1 _ _)) HT.out.1;have r1:=K2.at (Xp.old (Or.inl rfl)) (bl_blk (((Bl.refl w1).alloc _).alloc _) b1.out);have r2:=K2.at (Xp.old (Or.inr rfl)) (bl_blk (((Bl.refl w1).alloc _).alloc _) b2.out);have fz:=free_blk s1;have y0:w2.cell? ⟨w1.heap.size,0,none⟩=some (.int .i64 2):=(cell_blk s1).trans rfl;have y1:w2.cell? ⟨w1.heap.size,1,none⟩=some (.int .i64 3):=(cell_blk s1).trans rfl;have y2:w2.cell? ⟨w1.heap.size,2,none⟩=some (.int .i64 (v.n+1)):=(cell_blk s1).trans rfl;have fzr:=free_blk r2;have x0:w2.cell? ⟨w.heap.size+1,0,none⟩=some (.int .i64 0):=(cell_blk r2).trans rfl;have x1:w2.cell? ⟨w.heap.size+1,1,none⟩=some (.int .i64 0):=(cell_blk r2).trans rfl;have x2:w2.cell? ⟨w.heap.size+1,2,none⟩=some (.int .i64 0):=(cell_blk r2).trans rfl;have hne1:w.heap.size+1≠w1.heap.size:=(by omega);have hne2:w1.heap.size≠w.heap.size+1:=(by omega);replace H2:=hid H2;replace s1:=hid s1;replace r1:=hid r1;replace r2:=hid r2;clear K2)
     | (go_at_call 151;refine (att_stop 0 0 Z (tilY w.heap.size) wx w0 g h h1 L (fun L'=>unwM h1 (L'.map (·.c))=o1∧(∀k∈L',HandOk k.c)∧L'.length≤1000) 2 3 (v.n+1) wr HR.out HC.out).mono ?_;rintro e w1 ⟨rfl,⟨L1,hp,H1⟩,K1⟩;have b1:=K1.at (Or.inl rfl) HRB.out;have b2:=K1.at (Or.inr rfl) HST.out;have hl1:=lt_some b1;have hl2:=lt_some b2;have HT:=hid (two_lie w1 #[.int .i64 2,.int .i64 3,.int .i64 (v.n+1)] #[.int .i64 3,.int .i64 (v.n+1)] 126 115);replace H1:=hid H1;replace hp:=hid hp;replace b1:=hid b1;replace b2:=hid b2;clear K1))
    have hy:(Xp (tilY w.heap.size) w1.heap.size ((w1.alloc (.cells #[.int .i64 2,.int .i64 3,.int .i64 (v.n+1)] 126)).alloc (.cells #[.int .i64 3,.int .i64 (v.n+1)] 115)).heap.size) w1.heap.size:=Xp.new (Nat.le_refl _) (lt_w2a w1 _ _)
    have hz:(Xp (tilY w.heap.size) w1.heap.size ((w1.alloc (.cells #[.int .i64 2,.int .i64 3,.int .i64 (v.n+1)] 126)).alloc (.cells #[.int .i64 3,.int .i64 (v.n+1)] 115)).heap.size) (w.heap.size+1):=Xp.old (Or.inr rfl)
    have r3:(((w2.setCell ⟨w1.heap.size,0,none⟩ (.int .i64 o1.how)).setCell ⟨w1.heap.size,1,none⟩ (.int .i64 (im o1.v).kind)).setCell ⟨w1.heap.size,2,none⟩ (.int .i64 (im o1.v).n)).heap[w.heap.size+1]?=some (.cells #[.int .i64 0,.int .i64 0,.int .i64 0] 126 (0,0)):=by
     rw [block_far (by omega),block_far (by omega),block_far (by omega)];exact r2.out
    refine bodyPost_ret (results_cell_row rfl _ _ (w.heap.size+1) _ _ _ _ rfl (set_3c r3 _ _ _) Tryz.underlying126 rfl info_stop) rfl ?_
    have q1:=HE.out.1
    rw [HFI.out,if_pos rfl] at q1
    rw [q1]
    exact ⟨rfl,L',((((((H2.out.set hy 0 _).set hy 1 _).set hy 2 _).set hz 0 _).set hz 1 _).set hz 2 _).x⟩
abbrev doC (w:World) (q:Nat) (Q:Ending→World→Prop):Prop:=Calls Tryz.prog 67 #[.pointer (some ⟨q,0,none⟩)] w Q
def DrA (w0:World) (g:Mg) (h:Hp) (k:Kl) (L:List Kl) (o:Mo):Prop :=
 o.fin=false∧∀Z wx w,RR 1 Z wx w0 g w h (k::L)→doC w k.a.q fun e w'=>e=.returned (.tuple #[])∧∃L':List Kl,L'.map (·.c)=o.cs∧RR 0 Z wx w0 g w' o.h L'
def DrB (w0:World) (g:Mg) (h:Hp) (k:Kl) (L:List Kl) (o:Mo):Prop :=
 (o=endM o.how o.v o.h∧o.how≠2)∧∀Z wx w,RR 1 Z wx w0 g w h (k::L)→doC w k.a.q fun e w'=>e=stopE o.how (im o.v).kind (im o.v).n∧∃L':List Kl,True∧RR 0 Z wx w0 g w' o.h L'
def DrC (w0:World) (g:Mg) (h:Hp) (k:Kl) (L:List Kl) (o:Mo):Prop :=
 ∃h1 cs1,o=unwM h1 cs1∧0≤h1.thrown∧h1.over=false∧Gh 0 h1∧Kd h1∧Le h h1∧IC h1 cs1∧h1.calls=(cs1.length:Int)
  ∧ ∀Z wx w,RR 1 Z wx w0 g w h (k::L)→doC w k.a.q fun e w'=>e=stopE 2 3 (h1.thrown+1)∧∃L1:List Kl,(unwM h1 (L1.map (·.c))=o∧(∀y∈L1,HandOk y.c)∧L1.length≤1000)∧RR 0 Z wx w0 g w' h1 L1
theorem Gc.hands {h:Hp} {c:Cal} (g:Gc h c) (hp:0≤c.pc∧c.pc≤c.m.code.length):HandOk c:=by
 obtain ⟨p1,p2,p3,p5,p6,p7,p8,p9,p10,p11⟩:=smeP g.me
 refine ⟨fun q hq=>?_,hp.1,by omega⟩
 have:=of_decide_eq_true (p10 _ (nth_mem (d:=hd0) hq))
 omega
theorem HandOk.same {c c':Cal} (H:HandOk c) (e1:c'.m=c.m) (e2:c'.pc=c.pc):HandOk c':=by
 unfold HandOk at H ⊢;rw [e1,e2];exact H
theorem doq_rr (w0:World) (g:Mg) (h:Hp) (k:Kl) (L:List Kl) (i:In) (ho:h.over=false) (ht:h.thrown=-1) (hI:IC h (L.map (·.c))) (hcl:h.calls=((k::L).length:Int)) (hp:0≤k.c.pc∧k.c.pc<k.c.m.code.length)
  (K:Kept h k.c (doesP h k.c i))
  (hd:∀X wx w,RX 1 X wx w0 g w h (qsL (k::L)) k.a k.c→doC w k.a.q fun e w'=>DoQ X wx w0 g (qsL (k::L)) k.a k.c (doesP h k.c i) e w') :
  DrA w0 g h k L (didM (doesP h k.c i) (L.map (·.c)))∨DrB w0 g h k L (didM (doesP h k.c i) (L.map (·.c)))∨DrC w0 g h k L (didM (doesP h k.c i) (L.map (·.c))):=by
 have hnt:NoThr (doesP h k.c i).h:=does_noThr (fun o=>by rw [ho] at o;cases o) k.c i
 have hlo:=does_locs ht k.c i
 generalize doesP h k.c i=d at *
 unfold didM
 by_cases hov:d.h.over=true
 ·rw [if_pos hov]
  refine Or.inr (Or.inl ⟨⟨rfl,hnt hov⟩,fun Z wx w H=>(hd _ _ _ H.top).mono ?_⟩)
  intro e w' q
  have hs:d.h.stops=true:=by unfold Hp.stops;rw [hov];rfl
  obtain ⟨c',d1,d2,H'⟩:=q.stop hs
  obtain ⟨vs',l',H2⟩:=H.of H'
  refine ⟨?_,_,trivial,H2⟩
  rw [q.how];unfold DidE;rw [if_pos hov];rfl
 ·rw [if_neg hov]
  have hov':d.h.over=false:=by simpa using hov
  by_cases hth:0≤d.h.thrown
  ·rw [if_pos hth]
   refine Or.inr (Or.inr ⟨d.h,d.c::L.map (·.c),rfl,hth,hov',K.gh,K.kd,K.le,?_,?_,?_⟩)
   ·intro x hx
    rcases List.mem_cons.1 hx with rfl|hx
    ·exact ⟨K.gc hov',by rw [K.pc];exact hp.1,by rw [K.pc,K.m];exact hp.2⟩
    ·exact hI.le K.le x hx
   ·rw [K.le.calls,hcl];simp
   ·intro Z wx w H
    refine (hd _ _ _ H.top).mono ?_
    intro e w' q
    have hs:d.h.stops=true:=by unfold Hp.stops;rw [decide_eq_true hth];simp
    obtain ⟨c',d1,d2,H'⟩:=q.stop hs
    obtain ⟨vs',l',H2⟩:=H.of H'
    refine ⟨?_,_,⟨?_,?_,?_⟩,H2⟩
    ·rw [q.how];unfold DidE;rw [if_neg hov,if_pos hth]
    ·exact unw_same (d1.trans K.m.symm) (d2.1.trans K.pc.symm) (d2.2.trans (hlo hth).symm)
    ·intro y hy
     rcases List.mem_cons.1 hy with rfl|hy
     ·exact ((K.gc hov').hands (by rw [K.pc,K.m];omega)).same (d1.trans K.m.symm) (d2.1.trans K.pc.symm)
     ·have:=hI y.c (List.mem_map_of_mem hy)
      exact this.1.hands ⟨this.2.1,by omega⟩
    ·have:=K.gh.calls
     rw [K.le.calls,hcl] at this
     simp at this ⊢
     omega
  ·rw [if_neg hth]
   refine Or.inl ⟨rfl,fun Z wx w H=>(hd _ _ _ H.top).mono ?_⟩
   intro e w' q
   have hs:d.h.stops=false:=by unfold Hp.stops;rw [hov',decide_eq_false hth];rfl
   obtain ⟨vs',l',H2⟩:=H.of (q.go hs)
   refine ⟨?_,_,?_,H2⟩
   ·rw [q.how];unfold DidE;rw [if_neg hov,if_neg hth]
   ·rfl
theorem RR.less {Z:Nat→Prop} {wx w0 w:World} {g:Mg} {h:Hp} {L:List Kl} (H:RR 1 Z wx w0 g w h L):RR 0 Z wx w0 g w h L:=by
 obtain ⟨vc,vo,vx,R,hl,z1,z2,K⟩:=H
 exact ⟨vc,vo,vx,R.less,hl,z1,z2,K⟩
theorem RR.kp {s:Nat} {Z:Nat→Prop} {wx w0 w:World} {g:Mg} {h:Hp} {L:List Kl} {n:Nat} (H:RR s (Xp Z n wx.heap.size) wx w0 g w h L):KpY (Xp noY n wx.heap.size) wx w:=by
 obtain ⟨vc,vo,vx,R,hl,z1,z2,K⟩:=H
 exact ⟨K.size,fun b hb=>(K.blk b (Or.inr (hb.resolve_left (fun x=>x)))).2⟩
theorem end_rr (w0:World) (g:Mg) (h:Hp) (k:Kl) (L:List Kl) (ho:h.over=false) (ht:h.thrown=-1) (gc:Gc h k.c) (hp:¬k.c.pc<k.c.m.code.length):DrB w0 g h k L (endM 6 va0 h):=by
 refine ⟨⟨rfl,(by show (6:Int)≠2;decide)⟩,fun Z wx w H=>?_⟩
 have h7:=(smeP gc.me).2.2.2.2.2.1
 refine (do_end _ _ w0 g h _ k.a k.c w H.top (by unfold Hp.stops;rw [ho,ht];rfl) (by omega) (by unfold maxLen;omega)).mono ?_
 rintro e w' ⟨rfl,H'⟩
 obtain ⟨vs',l',H2⟩:=H.of H'
 exact ⟨rfl,_,trivial,H2.less⟩
theorem retv_rr (w0:World) (g:Mg) (h:Hp) (k:Kl) (L:List Kl) (v:Va) (hop:(nth in0 k.c.m.code k.c.pc.toNat).op=20) (hp:0≤k.c.pc∧k.c.pc<k.c.m.code.length) (hI:IC h (L.map (·.c))) (hlen:L.length≤100) (hv:0≤v.kind∧v.kind≤3)
  (hres:∀X wx w,RX 1 X wx w0 g w h (qsL (k::L)) k.a k.c→Calls Tryz.prog 141 #[.pointer (some ⟨k.a.q,0,none⟩),.int .i64 (nth in0 k.c.m.code k.c.pc.toNat).a] w fun e w'=>e=.returned (mvV (im v))∧Bl w w') :
  DrA w0 g h k L (backM h.leave v (L.map (·.c)))∨DrB w0 g h k L (backM h.leave v (L.map (·.c))):=by
 cases L with
 | nil =>
  refine Or.inr ⟨⟨rfl,(by show (1:Int)≠2;decide)⟩,fun Z wx w H=>?_⟩
  obtain ⟨cb,co,Q,q,A⟩:=H.top.ati hp
  have hd:=do_ret_stop (fun e w'=>e=stopE 1 (im v).kind (im v).n∧RR 1 Z wx w0 g w' h []) _ _ w0 g h _ k.a k.c w H.top _ _ _ _ _ _ cb co Q q _ A hop (im v) _ (fun w' hb=>hres _ _ w' (H.top.bl hb)) (fun w1 hb=>(return_done 1 Z wx w0 g h k v w1 (H.bl hb)).mono fun e w2 z=>⟨z.1,z⟩)
  refine hd.mono ?_
  rintro e w' ⟨rfl,H'⟩
  exact ⟨rfl,[],trivial,H'.less.leave⟩
 | cons k2 L2 =>
  have h2:=hI k2.c (by simp)
  have hl2:L2.length≤100:=by simp at hlen;omega
  have h7:=(smeP h2.1.me).2.2.2.2.2.1
  have hpc:0≤k2.c.pc∧k2.c.pc<9223372036854775807:=⟨h2.2.1,by have:=h2.2.2;omega⟩
  refine Or.inl ⟨rfl,fun Z wx w H=>?_⟩
  obtain ⟨cb,co,Q,q,A⟩:=H.top.ati hp
  have hd:=do_ret_go (fun e w'=>e=.returned (.tuple #[])∧∃vs l,RR 1 Z wx w0 g w' h (⟨k2.a,{ k2.c with giv:=v,cau:=va0,pc:=k2.c.pc+1 },vs,l⟩::L2)) _ _ w0 g h _ k.a k.c w H.top _ _ _ _ _ _ cb co Q q _ A hop (im v) (fun w' hb=>hres _ _ w' (H.top.bl hb)) (fun w1 hb=>?_)
  ·refine hd.mono ?_
   rintro e w' ⟨rfl,vs',l',H'⟩
   exact ⟨rfl,_,rfl,H'.less.leave⟩
  ·refine (return_back 1 _ w1 w0 g h k k2 L2 v w1 (H.wide hb) hl2 _ _ (Or.inl rfl) (fun X wx w H=>back_any 1 X wx w0 g h _ k2.a k2.c v w H hpc hv)).mono ?_
   rintro e w2 ⟨rfl,⟨vs',l',H2⟩,hk⟩
   exact ⟨rfl,⟨rfl,vs',l',H.back hb H2⟩,H2.kp,hk _ (Or.inl rfl)⟩
theorem RX.ati2 {s:Nat} {X:Nat→Prop} {wx w0 w:World} {g:Mg} {h:Hp} {qs:List Qb} {a:Mc} {c:Cal} (H:RX s X wx w0 g w h qs a c) (hp:0≤c.pc∧c.pc<c.m.code.length):∃cb co Q q,AtI w a c (nth in0 c.m.code c.pc.toNat) cb co Q q c.pc.toNat∧IntsAt w0 Q (nth in0 c.m.code c.pc.toNat).args:=by
 obtain ⟨vc,vo,vx,vs,l,H⟩:=H
 have hm:=H.ca.me.2.1
 have b:=H.rh.bl
 rcases hm.2 with h0|⟨cb,co,hC,hi⟩
 ·omega
 obtain ⟨k0,k1,k2,k3,k4,-,Q,q,k5,hI⟩:=hi c.pc.toNat (by omega)
 exact ⟨cb,co,Q,q,⟨hC,by omega,by omega,hm.1,b.cell k0,b.cell k1,b.cell k2,b.cell k3,b.cell k4,b.cell k5⟩,hI⟩
theorem RR.three {s:Nat} {Z:Nat→Prop} {wx w0 w:World} {g:Mg} {h:Hp} {L:List Kl} (H:RR s Z wx w0 g w h L) {k:Kl} (hk:k∈L) {mb mo:Nat} (hM:g.M=some ⟨mb,mo,none⟩) {b o:Nat} {v:Value} (hc:w0.cell? ⟨b,o,none⟩=some v) :
  w.cell? ⟨k.a.q,1,none⟩=some (.pointer (some ⟨g.r,0,none⟩))∧w.cell? ⟨g.r,1,none⟩=some (.slice (some ⟨mb,mo,none⟩) h.file.methods.length g.m)∧w.cell? ⟨b,o,none⟩=some v:=by
 obtain ⟨vc,vo,vx,R,hl,z1,z2,K⟩:=H
 exact ⟨(hl.mem hk).cells.c1,by rw [cell_blk R.run,←hM];rfl,R.bl.cell hc⟩
theorem call_step (w0:World) (g:Mg) (h:Hp) (k:Kl) (L:List Kl) (i:In) (hin:nth in0 k.c.m.code k.c.pc.toNat=i) (hop:i.op=18) (ok:InOk h.file.classes h.file.methods k.c.m.code.length k.c.m.regs k.c.m.ret.kind i) (tw:InTwo h.file.classes h.file.methods k.c.m.regs k.c.m.ret.kind i) (hmay:MayF h.file) (hmm:h.file.methods.length≤8) (gh:Gh 1 h) (gc:Gc h k.c) (hp:0≤k.c.pc∧k.c.pc<k.c.m.code.length) (hI:IC h (L.map (·.c))) (hcl:h.calls=((k::L).length:Int)) (F:Fix w0 g h) :
  DrA w0 g h k L (calM h k.c (L.map (·.c)) i)∨DrB w0 g h k L (calM h k.c (L.map (·.c)) i):=by
 have hcb:=gh.calls
 obtain ⟨hia0,hia1,hargs⟩:=ok.call hop
 have hreg:=ok.args hop
 have htwo:=tw.g2 hop
 obtain ⟨op,ia0,ib,ic,ii,args⟩:=i
 dsimp only at hop hia0 hia1 hargs hreg htwo
 obtain ⟨ia,rfl⟩:∃ia:Nat,ia0=ia:=⟨ia0.toNat,by omega⟩
 have hidx:ia<h.file.methods.length:=by omega
 have hmo:=hmay.2 _ (nth_mem (d:=me0) hidx)
 rcases F.mes.2 with z0|⟨mb,mo,hM,hcell⟩
 ·omega
 obtain ⟨P,C,J,p,c,kk,m0,-,-,-,-,-,-,-,hme⟩:=hcell ia hidx
 unfold calM
 dsimp only
 rw [Int.toNat_natCast] at hargs htwo ⊢
 generalize hmE:nth me0 h.file.methods ia=m at *
 obtain ⟨p1,p2,p3,p5,p6,p7,p8,p9,p10,p11⟩:=smeP hmo.1
 have hlen:=gc.len
 have O:RdOk h k.c args m.params:=⟨hargs,p5,fun j hj=>by have:=hreg j (by omega);omega,fun j hj=>by
   have:=p9 _ (nth_mem (d:=ty0) hj)
   unfold tyB at this
   rw [decide_eq_true_eq] at this
   omega,fun j hj e=>by have:=htwo j (by omega) e;omega,fun j hj=>(gc.rd (hreg j (by omega))).ref⟩
 have el:=rds_length k.c args m.params hargs
 have hT:∀{Z wx w},RR 1 Z wx w0 g w h (k::L)→∀{Q q},IntsAt w0 Q args→∀w',Bl w w'→Calls Tryz.prog 139 #[.pointer (some ⟨k.a.q,0,none⟩),.slice Q args.length q,.slice P m.params.length p] w' fun e w2=>RTQ h k.c args m.params w' e w2:=fun {Z wx w} H {Q q} hQ w' hb=>readTypes_any 1 _ _ w0 g h _ k.a k.c P Q p q m.params args w' (H.top.bl hb) F gh.len hme.1 hQ O
 have hcs:∀{Z wx w},RR 1 Z wx w0 g w h (k::L)→∀w',Bl w w'→w'.cell? ⟨k.a.q,1,none⟩=some (.pointer (some ⟨g.r,0,none⟩))∧w'.cell? ⟨g.r,1,none⟩=some (.slice (some ⟨mb,mo,none⟩) h.file.methods.length g.m)∧w'.cell? ⟨mb,mo+ia*8,none⟩=some (.slice P m.params.length p):=fun {Z wx w} H w' hb=>(H.bl hb).three List.mem_cons_self hM m0
 cases he:h.enterL (k.c.rds args m.params) m.params with
 | false =>
  rw [if_pos rfl]
  refine Or.inr ⟨⟨rfl,(by show (6:Int)≠2;decide)⟩,fun Z wx w H=>?_⟩
  obtain ⟨cb,co,Q,q,A,hQ⟩:=H.top.ati2 hp
  rw [hin] at A hQ
  refine (do_call_no (fun e w'=>e=stopE 6 0 0∧Bl w w') _ _ w0 g h _ k.a k.c w H.top op ib ic ii ia args cb co Q q _ A hop mb mo h.file.methods.length m.params.length p P hmm hidx (hcs H) (fun w' hb=>(hT H hQ w' hb).mono ?_) (fun w2 hb=>⟨rfl,hb⟩)).mono ?_
  ·rintro e w2 (⟨z,-⟩|⟨-,z⟩)
   ·rw [he] at z;cases z
   ·exact z
  ·rintro e w' ⟨rfl,hb⟩
   exact ⟨rfl,_,trivial,(H.bl hb).less⟩
 | true =>
  rw [if_neg (by decide)]
  obtain ⟨s1,s2⟩:=enter_sizes h h.file.classes.length _ m.params el he p9
  have hTy:∀{Z wx w},RR 1 Z wx w0 g w h (k::L)→∀{Q q},IntsAt w0 Q args→∀w',Bl w w'→Calls Tryz.prog 139 #[.pointer (some ⟨k.a.q,0,none⟩),.slice Q args.length q,.slice P m.params.length p] w' fun e w2=>e=.returned (.slice (some ⟨w'.heap.size,0,none⟩) m.params.length m.params.length)∧LBox w2 w'.heap.size ((k.c.rds args m.params).map im)∧Bl w' w2:=fun {Z wx w} H {Q q} hQ w' hb=>(hT H hQ w' hb).mono (by
   rintro e w2 (⟨-,z⟩|⟨z,-⟩)
   ·exact z
   ·rw [he] at z;cases z)
  by_cases hd:h.deep=true
  ·rw [if_pos hd]
   refine Or.inr ⟨⟨rfl,(by show (5:Int)≠2;decide)⟩,fun Z wx w H=>?_⟩
   obtain ⟨cb,co,Q,q,A,hQ⟩:=H.top.ati2 hp
   rw [hin] at A hQ
   have hd':20≤h.calls:=by unfold Hp.deep at hd;simpa using hd
   refine (do_call_stop (fun e w'=>e=stopE 5 0 0∧RR 1 Z wx w0 g w' h (k::L)) _ _ w0 g h _ k.a k.c w H.top op ib ic ii ia args cb co Q q _ A hop mb mo h.file.methods.length m.params.length p P hmm hidx (hcs H) _ _ (hTy H hQ) (fun w1 b hb _=>(call_deep 1 Z wx w0 g h k L w1 (H.bl hb) (ia:Int) _ (by rw [hcl] at hd';omega) (by rw [hcl] at hcb;omega)).mono fun e w2 z=>⟨z.1,z⟩)).mono ?_
   rintro e w' ⟨rfl,H'⟩
   exact ⟨rfl,_,trivial,H'.less⟩
  ·rw [if_neg hd]
   have hd':h.calls<20:=by unfold Hp.deep at hd;simp at hd;exact hd
   refine Or.inl ⟨rfl,fun Z wx w H=>?_⟩
   obtain ⟨cb,co,Q,q,A,hQ⟩:=H.top.ati2 hp
   rw [hin] at A hQ
   refine (do_call_go (fun e w'=>e=.returned (.tuple #[])∧∃k2:Kl,k2.c=newCal m (k.c.rds args m.params)∧RR 1 Z wx w0 g w' h (k2::k::L)) _ _ w0 g h _ k.a k.c w H.top op ib ic ii ia args cb co Q q _ A hop mb mo h.file.methods.length m.params.length p P hmm hidx (hcs H) _ (hTy H hQ) (fun w1 b hb B=>?_)).mono ?_
   ·have:=call_rr 1 _ w1 w0 g h (k::L) w1 (H.wide hb) ia m m.regs.toNat b m.params.length (k.c.rds args m.params) (by rw [hcl] at hd';omega) hidx hmE F.mes (by omega) (by omega) B (by omega) s2
    rw [el] at this
    refine this.mono ?_
    rintro e w2 ⟨rfl,k2,hk2,H2⟩
    exact ⟨rfl,⟨rfl,k2,hk2,H.back hb H2⟩,H2.kp,H2.three (List.mem_cons_of_mem _ List.mem_cons_self) hM m0⟩
   ·rintro e w' ⟨rfl,k2,hk2,H'⟩
    refine ⟨rfl,k2::k::L,?_,(H'.less).heap (h.calls+1) h.thrown⟩
    show k2.c::k.c::L.map (·.c)=newCal m (k.c.rds args m.params)::k.c::L.map (·.c)
    rw [hk2]
end Go.Proofs.YtgiiapenmjollabGreat
