import Derived.Test.YtgiiapenmjollaaSlbb
import Derived.Test.YtgiiapenmjollaaSlbf
import Derived.Defers
import Derived.Recover
namespace Go.Proofs.Ytgiiapenmjollaa
set_option linter.all false
set_option maxHeartbeats 40000000
open Go.RowKit
theorem RR.heap {s:Nat} {Z:Nat→Prop} {wx w0 w:World} {g:Mg} {h:Hp} {L:List Kl} (H:RR s Z wx w0 g w h L) (c t:Int):RR s Z wx w0 g w { h with calls:=c,thrown:=t } L:=by
 obtain ⟨vc,vo,vx,R,hl,z1,z2,K⟩:=H
 obtain ⟨n,D,F⟩:=R.fld
 exact ⟨vc,vo,vx,⟨R.ownr,R.ownh,R.ownm,R.bl,R.run,R.hp,R.out,R.obs,R.calls,n,D,F.own,F.few,F.hit,F.miss,F.new,F.ks,F.kd⟩,hl,z1,z2,K⟩
theorem RR.leave {s:Nat} {Z:Nat→Prop} {wx w0 w:World} {g:Mg} {h:Hp} {L:List Kl} (H:RR s Z wx w0 g w h L):RR s Z wx w0 g w h.leave L:=H.heap (h.calls-1) h.thrown
theorem RR.caught {s:Nat} {Z:Nat→Prop} {wx w0 w:World} {g:Mg} {h:Hp} {L:List Kl} (H:RR s Z wx w0 g w h L):RR s Z wx w0 g w { h with thrown:=-1 } L:=H.heap h.calls (-1)
theorem Fix.leave {w0:World} {g:Mg} {h:Hp} (F:Fix w0 g h):Fix w0 g h.leave:=⟨F.cls,F.mes,F.inp,F.may⟩
def lenC (r:Nat) (w:World):Nat:=match w.cell? ⟨r,3,none⟩ with
 | some (.slice _ n _)=>n
 | _=>0
theorem lenC_rr {s:Nat} {Z:Nat→Prop} {wx w0 w:World} {g:Mg} {h:Hp} {L:List Kl} (H:RR s Z wx w0 g w h L):lenC g.r w=L.length:=by
 unfold lenC
 cases L with
 | nil=>obtain ⟨A,cap,e⟩:=H.c3n;rw [e];rfl
 | cons k L=>obtain ⟨gb,cap,e⟩:=H.c3;rw [e];rfl
theorem call_field2 (a b c:Value) (w:World):(Instr.field 93 (.agg #[a,b,c]) 2).run Try.prog w=.ok c w:=by
 simp [Instr.field,go_sem,Try.underlying93,run_underlying Try.underlying93,asAgg]
def HandOk (c:Cal):Prop:=(∀q,q<c.m.hands.length→0≤(nth hd0 c.m.hands q).fr∧(nth hd0 c.m.hands q).til≤1000∧0≤(nth hd0 c.m.hands q).til∧0≤(nth hd0 c.m.hands q).pc)∧0≤c.pc∧c.pc≤1000
theorem vbox {s:Nat} {Z:Nat→Prop} {W w0 w':World} {g:Mg} {h:Hp} {L:List Kl} {n:Nat} {k m:Int} (H:RR s (Xp Z n W.heap.size) W w0 g w' h L) (hb:W.heap[n]?=some (.cells #[.int .i64 k,.int .i64 m] 109 (0,0))) :
  w'.cell? ⟨n,0,none⟩=some (.int .i64 k)∧w'.cell? ⟨n,1,none⟩=some (.int .i64 m):=by
 have:=H.own (w':=W) (Nat.le_refl _) hb
 exact ⟨c0_of this,c1_of this⟩
theorem s4 {s:Nat} {Z:Nat→Prop} {W w0 w':World} {g:Mg} {h:Hp} {L:List Kl} {n:Nat} {k m:Int} (H:RR s (Xp Z n W.heap.size) W w0 g w' h L) (hb:W.heap[n]?=some (.cells #[.int .i64 k,.int .i64 m] 109 (0,0))) :
  w'.cell? ⟨g.r,0,none⟩=some (.pointer (some ⟨g.hb,0,none⟩))∧w'.cell? ⟨n,0,none⟩=some (.int .i64 k)∧w'.cell? ⟨n,1,none⟩=some (.int .i64 m):=by
 have:=vbox H hb
 obtain ⟨vc,vo,vx,R,-,-,-,-⟩:=H
 exact ⟨by rw [cell_blk R.run];rfl,this.1,this.2⟩
def UnQ (s:Nat) (Z:Nat→Prop) (wx w0:World) (g:Mg) (o:Mo) (e:Ending) (w':World):Prop :=
 (o.fin=false→e=.returned (.tuple #[])∧∃L':List Kl,L'.map (·.c)=o.cs∧RR s Z wx w0 g w' o.h L')∧(o.fin=true→e=stopE o.how (im o.v).kind (im o.v).n∧∃L':List Kl,RR s Z wx w0 g w' o.h L')
def UnR (s:Nat) (Z:Nat→Prop) (W w0:World) (g:Mg) (h:Hp) (L:List Kl) (wr:World):Prop :=
 ∃(L':List Kl) (h':Hp),unwM h (L.map (·.c))=unwM h' (L'.map (·.c))∧RR s Z W w0 g wr h' L'∧Fix w0 g h'∧h'.objs=h.objs∧h'.thrown=h.thrown∧(∀k∈L',HandOk k.c)∧L'.length≤1000
set_option maxRecDepth 100000 in
theorem unwind_any (s:Nat) (Z:Nat→Prop) (wx w0:World) (g:Mg) (h:Hp) (L:List Kl) (v:Va) (w:World) (H:RR s Z wx w0 g w h L) (F:Fix w0 g h) (hf:h.objs.length≤100) (hv:v.kind=3) (h0:0≤v.n) (hn:v.n<h.objs.length) (ht:h.thrown=v.n) (hok:∀k∈L,HandOk k.c) (hlen:L.length≤1000) :
  Calls Try.prog 105 #[.pointer (some ⟨g.r,0,none⟩),mvV (im v)] w fun e w'=>UnQ s Z wx w0 g (unwM h (L.map (·.c))) e w':=by
 have HV:Hid (v.kind=3∧0≤v.n∧v.n<h.objs.length∧h.thrown=v.n):=⟨hv,h0,hn,ht⟩
 have HF0:=hid hf
 have HBL:Hid (Bl w (w.alloc (mvO (im v)))):=(Bl.refl w).alloc _
 have HBX:Hid ((w.alloc (mvO (im v))).heap[w.heap.size]?=some (.cells #[.int .i64 (im v).kind,.int .i64 (im v).n] 109 (0,0))):=blk_new _ _ _
 have HB0:=hid H
 have HS:Hid (UnR s (Xp Z w.heap.size (w.alloc (mvO (im v))).heap.size) (w.alloc (mvO (im v))) w0 g h L (w.alloc (mvO (im v)))):=⟨L,h,rfl,H.wide HBL.out,F,rfl,rfl,hok,hlen⟩
 have hcf:=call_field2
 clear H F hf hv h0 hn ht hok hlen
 go_enter Try.func105,Try.ntmps105
 go_wp2
 go_loopw [] (fun wr=>Hid (UnR s (Xp Z w.heap.size (w.alloc (mvO (im v))).heap.size) (w.alloc (mvO (im v))) w0 g h L wr)) (fun wr=>lenC g.r wr)
 case atStart=>exact HS.out
 case round =>
  clear HS
  obtain ⟨L',h',um,hr,hf',hob,hth,hok,hlen⟩:=hrel.out
  clear hrel
  have HUM:=hid um
  have HR:=hid hr
  have HF:Hid (Fix w0 g h'∧h'.objs.length≤100):=⟨hf',by rw [hob];exact HF0.out⟩
  have HOB:Hid (h'.objs=h.objs):=hob
  have HTH:=hid hth
  have HOK:=hid hok
  have HLEN:=hid hlen
  clear um hr hf' hob hth hok
  cases L' with
  | nil =>
   obtain ⟨A,cap,c3⟩:=HR.out.c3n
   clear hlen
   go_wp2
   refine wp_region_held_drew (S:=fun w'=>w'.cell? ⟨g.r,0,none⟩=some (.pointer (some ⟨g.hb,0,none⟩))∧w'.cell? ⟨w.heap.size,0,none⟩=some (.int .i64 (im v).kind)∧w'.cell? ⟨w.heap.size,1,none⟩=some (.int .i64 (im v).n)) (by kernel_rfl) ?_ (fun hHeld0=>?_)
   ·exact s4 (HR.out.bl (Bl.refl wr).drew) HBX.out
   refine tk (i:=0) (d:=some 17) rfl rfl (by kernel_rfl) (fun _ _ _ h=>h) (by rfl) (by intro _ h;(try dsimp only at h);go_split_ands;go_simp<;>with_reducible rfl) hHeld0 ?_
   try simp only [aS,aN,aT,a0,a1]
   refine tk (i:=1) (d:=some 18) rfl rfl (by kernel_rfl) (fun _ _ _ h=>h) (by rfl) (by intro _ h;(try dsimp only at h);go_split_ands;go_simp<;>with_reducible rfl) hHeld0 ?_
   try simp only [aS,aN,aT,a0,a1]
   refine tk (i:=2) (d:=some 19) rfl rfl (by kernel_rfl) (fun _ _ _ h=>h) (by rfl) (by intro _ h;(try dsimp only at h);go_split_ands;go_simp<;>with_reducible rfl) hHeld0 ?_
   try simp only [aS,aN,aT,a0,a1]
   refine tk (i:=3) (d:=some 20) rfl rfl (by kernel_rfl) (fun _ _ _ h=>h) (by rfl) (by intro _ h;(try dsimp only at h);go_split_ands;go_simp<;>with_reducible rfl) hHeld0 ?_
   try simp only [aS,aN,aT,a0,a1]
   refine tk (i:=4) (d:=some 21) rfl rfl (by kernel_rfl) (fun _ _ _ h=>h) (by rfl) (by intro _ h;(try dsimp only at h);go_split_ands;go_simp<;>with_reducible rfl) hHeld0 ?_
   try simp only [aS,aN,aT,a0,a1]
   refine rd1 (i:=5) (by kernel_rfl) rfl fun K hK=>?_
   go_simp
   go_at_call 124
   refine (mthrow_obj g.hb v HV.out.1 HV.out.2.1 _).mono ?_
   rintro e w2 ⟨rfl,b2⟩
   have HR2:=(HR.out.bl (Bl.refl wr).drew).bl b2
   have ho:unwM h (L.map (·.c))=endM 2 ⟨3,h'.thrown⟩ h':=HUM.out
   have hth:h'.thrown=v.n:=HTH.out.trans HV.out.2.2.2
   refine ⟨rfl,?_⟩
   rw [ho]
   refine ⟨(fun z=>by cases z),fun _=>⟨?_,[],HB0.out.back HBL.out HR2⟩⟩
   show thrE v.n=stopE 2 3 (if (3:Int)=3 then h'.thrown+1 else h'.thrown)
   rw [if_pos rfl,hth]
  | cons k L2 =>
   obtain ⟨gb,cap,c3⟩:=HR.out.c3
   have HOKK:=hid (HOK.out k List.mem_cons_self)
   have hn1:(0:Int)<((L2.length+1:Nat):Int):=by omega
   have hn2:((L2.length+1:Nat):Int)≤1000:=by simp at hlen;omega
   clear hlen
   by_cases hcl:h'.caughtL k.c.pc k.c.m.hands<0
   ·have HCL:=hid hcl
    clear hcl
    go_wp2
    refine wp_region_held_drew (S:=fun w'=>w'.cell? ⟨w.heap.size,0,none⟩=some (.int .i64 (im v).kind)∧w'.cell? ⟨w.heap.size,1,none⟩=some (.int .i64 (im v).n)) (by kernel_rfl) ?_ (fun hHeld0=>?_)
    ·exact vbox (HR.out.bl (Bl.refl wr).drew) HBX.out
    refine tk (i:=0) (d:=some 10) rfl rfl (by kernel_rfl) (fun _ _ _ h=>h) (by rfl) (by intro _ h;(try dsimp only at h);go_split_ands;go_simp<;>with_reducible rfl) hHeld0 ?_
    try simp only [aS,aN,aT,a0,a1]
    refine tk (i:=3) (d:=some 13) rfl rfl (by kernel_rfl) (fun _ _ _ h=>h) (by rfl) (by intro _ h;(try dsimp only at h);go_split_ands;go_simp<;>with_reducible rfl) hHeld0 ?_
    try simp only [aS,aN,aT,a0,a1]
    refine rd1 (i:=1) (by kernel_rfl) rfl fun K hK=>?_
    go_simp
    go_at_call 116
    refine (top_any s _ _ w0 g h' (qsL L2) k.a.q _ (by rw [←qsL_cons];exact (HR.out.bl (Bl.refl wr).drew).hx)).mono ?_
    rintro e w1 ⟨rfl,b1⟩
    have HR1:=hid ((HR.out.bl (Bl.refl wr).drew).bl b1)
    have s1:=hid (vbox HR1.out HBX.out)
    clear b1
    unfold funs
    go_wp2_with fail
    refine hK.out _ _ (s1.out) (fun hHeld1=>?_)
    try simp only [aS,aN,aT,a0,a1]
    refine tk (i:=2) (d:=some 12) rfl rfl (by kernel_rfl) (fun _ _ _ h=>h) (by rfl) (by intro _ h;(try dsimp only at h);go_split_ands;go_simp<;>with_reducible rfl) hHeld1 ?_
    try simp only [aS,aN,aT,a0,a1]
    refine rd1 (i:=4) (by kernel_rfl) rfl fun K hK=>?_
    go_simp
    go_at_call 68
    refine (catch_no s _ _ w0 g h' _ k.a k.c v _ HR1.out.top HF.out.1 HF.out.2 HV.out.1 HV.out.2.1 (by rw [HOB.out];exact HV.out.2.2.1) (HTH.out.trans HV.out.2.2.2) HOKK.out.1 HOKK.out.2 HCL.out).mono ?_
    rintro e w2 ⟨rfl,H2⟩
    obtain ⟨vs2,l2,HR2⟩:=HR1.out.of H2
    have s2:=hid (vbox HR2 HBX.out)
    replace HR2:=hid HR2
    clear H2
    go_wp2_with fail
    refine hK.out _ _ (s2.out) (fun hHeld2=>?_)
    try simp only [aS,aN,aT,a0,a1]
    refine wpAnyH_done (by kernel_rfl) ?_ _
    go_wp2_with (first
     | (go_at_call 115;refine (drop_any s _ _ w0 g h' (qsL L2) k.a.q _ (by have:=(HR2.out.hxB (Bl.refl _));exact this)).mono ?_;rintro e w3 ⟨rfl,H3⟩;have HR3:=hid (HR2.out.drops (Bl.refl _) H3).1;clear H3))
    go_roundw
    case rel =>
     refine ⟨L2,h'.leave,?_,RR.leave HR3.out,HF.out.1.leave,HOB.out,HTH.out,fun k2 hk2=>HOK.out k2 (List.mem_cons_of_mem _ hk2),by have:=HLEN.out;simp at this;omega⟩
     rw [HUM.out]
     exact if_pos HCL.out
    case measure =>
     have e1:=lenC_rr HR.out
     have e2:=lenC_rr HR3.out
     simp only [List.length_cons] at e1
     omega
   ·have hcl':0≤h'.caughtL k.c.pc k.c.m.hands:=by omega
    have HCL:=hid hcl'
    clear hcl hcl'
    by_cases hrm:(sizP [v]:Int)≤k.c.m.stack
    ·have HRM:=hid hrm
     clear hrm
     go_wp2
     refine wp_region_held_drew (S:=fun w'=>w'.cell? ⟨w.heap.size,0,none⟩=some (.int .i64 (im v).kind)∧w'.cell? ⟨w.heap.size,1,none⟩=some (.int .i64 (im v).n)) (by kernel_rfl) ?_ (fun hHeld0=>?_)
     ·exact vbox (HR.out.bl (Bl.refl wr).drew) HBX.out
     refine tk (i:=0) (d:=some 10) rfl rfl (by kernel_rfl) (fun _ _ _ h=>h) (by rfl) (by intro _ h;(try dsimp only at h);go_split_ands;go_simp<;>with_reducible rfl) hHeld0 ?_
     try simp only [aS,aN,aT,a0,a1]
     refine tk (i:=3) (d:=some 13) rfl rfl (by kernel_rfl) (fun _ _ _ h=>h) (by rfl) (by intro _ h;(try dsimp only at h);go_split_ands;go_simp<;>with_reducible rfl) hHeld0 ?_
     try simp only [aS,aN,aT,a0,a1]
     refine rd1 (i:=1) (by kernel_rfl) rfl fun K hK=>?_
     go_simp
     go_at_call 116
     refine (top_any s _ _ w0 g h' (qsL L2) k.a.q _ (by rw [←qsL_cons];exact (HR.out.bl (Bl.refl wr).drew).hx)).mono ?_
     rintro e w1 ⟨rfl,b1⟩
     have HR1:=hid ((HR.out.bl (Bl.refl wr).drew).bl b1)
     have s1:=hid (vbox HR1.out HBX.out)
     clear b1
     unfold funs
     go_wp2_with fail
     refine hK.out _ _ (s1.out) (fun hHeld1=>?_)
     try simp only [aS,aN,aT,a0,a1]
     refine tk (i:=2) (d:=some 12) rfl rfl (by kernel_rfl) (fun _ _ _ h=>h) (by rfl) (by intro _ h;(try dsimp only at h);go_split_ands;go_simp<;>with_reducible rfl) hHeld1 ?_
     try simp only [aS,aN,aT,a0,a1]
     refine rd1 (i:=4) (by kernel_rfl) rfl fun K hK=>?_
     go_simp
     go_at_call 68
     refine (catch_yes s _ _ w0 g h' _ k.a k.c v _ HR1.out.top HF.out.1 HF.out.2 HV.out.1 HV.out.2.1 (by rw [HOB.out];exact HV.out.2.2.1) (HTH.out.trans HV.out.2.2.2) HOKK.out.1 HOKK.out.2 HCL.out HRM.out).mono ?_
     rintro e w2 ⟨rfl,H2⟩
     obtain ⟨vs2,l2,HR2⟩:=HR1.out.of H2
     have s2:=hid (vbox HR2 HBX.out)
     replace HR2:=hid HR2
     clear H2
     go_wp2_with fail
     refine hK.out _ _ (s2.out) (fun hHeld2=>?_)
     try simp only [aS,aN,aT,a0,a1]
     refine wpAnyH_done (by kernel_rfl) ?_ _
     go_wp2
     go_end0
     have hv':v=⟨3,h'.thrown⟩:=by rw [HTH.out,HV.out.2.2.2];obtain ⟨vk,vn⟩:=v;simp at *;exact HV.out.1
     have ho:unwM h (L.map (·.c))=goM { h' with thrown:=-1 } ({ k.c with stk:=[v],pc:=h'.caughtL k.c.pc k.c.m.hands }::L2.map (·.c)):=by
      rw [HUM.out]
      show unwM h' (k.c::L2.map (·.c))=_
      unfold unwM
      rw [if_neg (by have:=HCL.out;omega),if_pos (by rw [←hv'];exact HRM.out),←hv']
     rw [ho]
     exact ⟨fun _=>⟨rfl,_::L2,rfl,RR.caught (HB0.out.back HBL.out HR2.out)⟩,fun z=>by cases z⟩
    ·have HRM:Hid (¬(sizP [v]:Int)≤k.c.m.stack):=hrm
     clear hrm
     go_wp2
     refine wp_region_held_drew (S:=fun w'=>w'.cell? ⟨w.heap.size,0,none⟩=some (.int .i64 (im v).kind)∧w'.cell? ⟨w.heap.size,1,none⟩=some (.int .i64 (im v).n)) (by kernel_rfl) ?_ (fun hHeld0=>?_)
     ·exact vbox (HR.out.bl (Bl.refl wr).drew) HBX.out
     refine tk (i:=0) (d:=some 10) rfl rfl (by kernel_rfl) (fun _ _ _ h=>h) (by rfl) (by intro _ h;(try dsimp only at h);go_split_ands;go_simp<;>with_reducible rfl) hHeld0 ?_
     try simp only [aS,aN,aT,a0,a1]
     refine tk (i:=3) (d:=some 13) rfl rfl (by kernel_rfl) (fun _ _ _ h=>h) (by rfl) (by intro _ h;(try dsimp only at h);go_split_ands;go_simp<;>with_reducible rfl) hHeld0 ?_
     try simp only [aS,aN,aT,a0,a1]
     refine rd1 (i:=1) (by kernel_rfl) rfl fun K hK=>?_
     go_simp
     go_at_call 116
     refine (top_any s _ _ w0 g h' (qsL L2) k.a.q _ (by rw [←qsL_cons];exact (HR.out.bl (Bl.refl wr).drew).hx)).mono ?_
     rintro e w1 ⟨rfl,b1⟩
     have HR1:=hid ((HR.out.bl (Bl.refl wr).drew).bl b1)
     have s1:=hid (vbox HR1.out HBX.out)
     clear b1
     unfold funs
     go_wp2_with fail
     refine hK.out _ _ (s1.out) (fun hHeld1=>?_)
     try simp only [aS,aN,aT,a0,a1]
     refine tk (i:=2) (d:=some 12) rfl rfl (by kernel_rfl) (fun _ _ _ h=>h) (by rfl) (by intro _ h;(try dsimp only at h);go_split_ands;go_simp<;>with_reducible rfl) hHeld1 ?_
     try simp only [aS,aN,aT,a0,a1]
     refine rd1 (i:=4) (by kernel_rfl) rfl fun K hK=>?_
     go_simp
     go_at_call 68
     refine (catch_full s _ _ w0 g h' _ k.a k.c v _ HR1.out.top HF.out.1 HF.out.2 HV.out.1 HV.out.2.1 (by rw [HOB.out];exact HV.out.2.2.1) (HTH.out.trans HV.out.2.2.2) HOKK.out.1 HOKK.out.2 HCL.out (by have:=HRM.out;omega)).mono ?_
     rintro e w2 ⟨rfl,c2,d1,d2,H2⟩
     obtain ⟨vs2,l2,HR2⟩:=HR1.out.of H2
     have hv':v=⟨3,h'.thrown⟩:=by rw [HTH.out,HV.out.2.2.2];obtain ⟨vk,vn⟩:=v;simp at *;exact HV.out.1
     have ho:unwM h (L.map (·.c))=endM 6 va0 h':=by
      rw [HUM.out]
      show unwM h' (k.c::L2.map (·.c))=_
      unfold unwM
      rw [if_neg (by have:=HCL.out;omega),if_neg (by rw [←hv'];have:=HRM.out;omega)]
     refine ⟨rfl,?_⟩
     rw [ho]
     exact ⟨(fun z=>by cases z),fun _=>⟨rfl,_,HB0.out.back HBL.out HR2⟩⟩
theorem catch_idle (p q:Addr) (w:World) :
  CallsD Try.prog 123 #[.pointer (some p),.pointer (some q)] .returning w fun e u' w'=>e=.returned (.tuple #[])∧u'=.returning∧w'=w:=by
 refine callsD_of_wpS Try.func123 rfl fun c₀ cs hu=>?_
 apply wpS_seq
 apply wpS_region
 simp [wpOpsS,go_sem,recoverD,hu,Try.ntmps123,Exit.thenS]
 refine wpS_of_wp ?_
 go_wp2
 cases c₀
 simp_all [bodyPostS,results,Try.results123]
theorem assert_stop (x:Value) (w:World):(Instr.typeAssert (.iface 111 x) 20 111 true).run Try.prog w=.ok (.tuple #[x,.bool true]) w:=by
 simp [Instr.typeAssert,run_underlying Try.underlying111]
set_option maxRecDepth 100000 in
theorem catch_stop (p q:Nat) (how k n:Int) (a0 a1 a2 b0:Value) (older:List PanicEntry) (w:World) (h0:w.cell? ⟨p,0,none⟩=some a0) (h1:w.cell? ⟨p,1,none⟩=some a1) (h2:w.cell? ⟨p,2,none⟩=some a2) (h3:w.cell? ⟨q,0,none⟩=some b0) (f0:∀i,w.frozen? ⟨p,i,none⟩=false) (f1:w.frozen? ⟨q,0,none⟩=false) (hne:p≠q) :
  CallsD Try.prog 123 #[.pointer (some ⟨p,0,none⟩),.pointer (some ⟨q,0,none⟩)] (.panicking ({ v:=.iface 111 (.agg #[.int .i64 how,.int .i64 k,.int .i64 n]),recovered:=false }::older)) w fun e u' w' =>
   e=.returned (.tuple #[])∧u'=.panicking ({ v:=.iface 111 (.agg #[.int .i64 how,.int .i64 k,.int .i64 n]),recovered:=true }::older)∧w'=((((w.setCell ⟨p,0,none⟩ (.int .i64 how)).setCell ⟨p,1,none⟩ (.int .i64 k)).setCell ⟨p,2,none⟩ (.int .i64 n)).setCell ⟨q,0,none⟩ (.bool true)).alloc (.cells #[.int .i64 how,.int .i64 k,.int .i64 n] 111):=by
 refine callsD_of_wpS Try.func123 rfl fun c₀ cs hu=>?_
 apply wpS_seq
 apply wpS_region
 simp [wpOpsS,go_sem,recoverD,hu,Try.ntmps123,Exit.thenS]
 refine wpS_of_wp ?_
 have he:(#[Value.pointer (some ⟨p,0,none⟩),Value.pointer (some ⟨q,0,none⟩)]++(Array.replicate 10 undef).setIfInBounds 3 (.iface 111 (.agg #[.int .i64 how,.int .i64 k,.int .i64 n])))=#[.pointer (some ⟨p,0,none⟩),.pointer (some ⟨q,0,none⟩),undef,undef,undef,.iface 111 (.agg #[.int .i64 how,.int .i64 k,.int .i64 n]),undef,undef,undef,undef,undef,undef]:=rfl
 rw [he]
 clear he
 have hts:=assert_stop (.agg #[.int .i64 how,.int .i64 k,.int .i64 n])
 have hp:=cell_lt h0
 have hq:=cell_lt h3
 go_wp2
 simp [bodyPostS,results,Try.results123]
abbrev stopZ:Obj:=.cells #[.int .i64 0,.int .i64 0,.int .i64 0] 111
abbrev boolZ:Obj:=.cells #[.bool false] 4
set_option maxRecDepth 100000 in
theorem attempt_stop (x:Value) (how k n:Int) (S:World→Prop) (w:World)
  (hc:Calls Try.prog 103 #[x] ((w.alloc stopZ).alloc boolZ) fun e w'=>e=stopE how k n∧w'.heap[w.heap.size]?=some stopZ∧w'.heap[w.heap.size+1]?=some boolZ∧S w') :
  Calls Try.prog 102 #[.func (.func 103) #[x] #[]] w fun e w'=>e=.returned (.tuple #[.agg #[.int .i64 how,.int .i64 k,.int .i64 n],.bool true])∧∃w1,S w1∧w'=((((w1.setCell ⟨w.heap.size,0,none⟩ (.int .i64 how)).setCell ⟨w.heap.size,1,none⟩ (.int .i64 k)).setCell ⟨w.heap.size,2,none⟩ (.int .i64 n)).setCell ⟨w.heap.size+1,0,none⟩ (.bool true)).alloc (.cells #[.int .i64 how,.int .i64 k,.int .i64 n] 111):=by
 have hmf:∀(fn:Fn) (first cap:Array Value) (w:World),(Instr.makeFunc fn first cap).run Try.prog w=.ok (.func fn first cap) w:=fun _ _ _ _=>rfl
 have HC:Hid (_):=hc
 clear hc
 go_enter_defers Try.func102,Try.ntmps102
 go_wp2_with (go_at_call 103;refine Calls.mono HC.out ?_;rintro e w1 ⟨rfl,b1,b2,s1⟩)
 have c0:w1.cell? ⟨w.heap.size,0,none⟩=some (.int .i64 0):=by simp [World.cell?,b1]
 have c1:w1.cell? ⟨w.heap.size,1,none⟩=some (.int .i64 0):=by simp [World.cell?,b1]
 have c2:w1.cell? ⟨w.heap.size,2,none⟩=some (.int .i64 0):=by simp [World.cell?,b1]
 have c3:w1.cell? ⟨w.heap.size+1,0,none⟩=some (.bool false):=by simp [World.cell?,b2]
 refine leaves_cons (f:=123) (args:=#[.pointer (some ⟨w.heap.size,0,none⟩),.pointer (some ⟨w.heap.size+1,0,none⟩)]) (by simp) (by simp [go_sem]) ?_
 refine (catch_stop w.heap.size (w.heap.size+1) how k n _ _ _ _ [] w1 c0 c1 c2 c3 (fun i=>by simp [World.frozen?,b1]) (by simp [World.frozen?,b2]) (by omega)).mono ?_
 rintro e u' w'' ⟨rfl,rfl,rfl⟩
 obtain ⟨WF,hWF⟩:∃WF,WF=((((w1.setCell ⟨w.heap.size,0,none⟩ (.int .i64 how)).setCell ⟨w.heap.size,1,none⟩ (.int .i64 k)).setCell ⟨w.heap.size,2,none⟩ (.int .i64 n)).setCell ⟨w.heap.size+1,0,none⟩ (.bool true)).alloc (.cells #[.int .i64 how,.int .i64 k,.int .i64 n] 111):=⟨_,rfl⟩
 have hbS:WF.heap[w.heap.size]?=some (.cells #[.int .i64 how,.int .i64 k,.int .i64 n] 111 (0,0)):=by
  have h1:((((w1.setCell ⟨w.heap.size,0,none⟩ (.int .i64 how)).setCell ⟨w.heap.size,1,none⟩ (.int .i64 k)).setCell ⟨w.heap.size,2,none⟩ (.int .i64 n)).setCell ⟨w.heap.size+1,0,none⟩ (.bool true)).heap[w.heap.size]?=some (.cells #[.int .i64 how,.int .i64 k,.int .i64 n] 111 (0,0)):=by
   rw [block_far (by omega),block_set (block_set (block_set b1 _) _)];rfl
  rw [hWF,Below.heap_alloc _ _ _ (lt_some h1)];exact h1
 have hbB:WF.heap[w.heap.size+1]?=some (.cells #[.bool true] 4 (0,0)):=by
  have h1:((((w1.setCell ⟨w.heap.size,0,none⟩ (.int .i64 how)).setCell ⟨w.heap.size,1,none⟩ (.int .i64 k)).setCell ⟨w.heap.size,2,none⟩ (.int .i64 n)).setCell ⟨w.heap.size+1,0,none⟩ (.bool true)).heap[w.heap.size+1]?=some (.cells #[.bool true] 4 (0,0)):=by
   have h2:(((w1.setCell ⟨w.heap.size,0,none⟩ (.int .i64 how)).setCell ⟨w.heap.size,1,none⟩ (.int .i64 k)).setCell ⟨w.heap.size,2,none⟩ (.int .i64 n)).heap[w.heap.size+1]?=some boolZ:=by
    rw [block_far (by omega),block_far (by omega),block_far (by omega)];exact b2
   rw [block_set h2];rfl
  rw [hWF,Below.heap_alloc _ _ _ (lt_some h1)];exact h1
 have d0:WF.cell? ⟨w.heap.size,0,none⟩=some (.int .i64 how):=by rw [cell_blk hbS];rfl
 have d1:WF.cell? ⟨w.heap.size,1,none⟩=some (.int .i64 k):=by rw [cell_blk hbS];rfl
 have d2:WF.cell? ⟨w.heap.size,2,none⟩=some (.int .i64 n):=by rw [cell_blk hbS];rfl
 have d3:WF.cell? ⟨w.heap.size+1,0,none⟩=some (.bool true):=by rw [cell_blk hbB];rfl
 rw [←hWF]
 have hex:∃w1,S w1∧WF=((((w1.setCell ⟨w.heap.size,0,none⟩ (.int .i64 how)).setCell ⟨w.heap.size,1,none⟩ (.int .i64 k)).setCell ⟨w.heap.size,2,none⟩ (.int .i64 n)).setCell ⟨w.heap.size+1,0,none⟩ (.bool true)).alloc (.cells #[.int .i64 how,.int .i64 k,.int .i64 n] 111):=⟨w1,s1,hWF⟩
 simp [Leaves,settle,results,Try.results102,go_sem,d0,d1,d2,d3]
 exact hex
set_option maxRecDepth 100000 in
theorem attempt_done (x:Value) (S:World→Prop) (w:World)
  (hc:Calls Try.prog 103 #[x] ((w.alloc stopZ).alloc boolZ) fun e w'=>e=.returned (.tuple #[])∧w'.heap[w.heap.size]?=some stopZ∧w'.heap[w.heap.size+1]?=some boolZ∧S w') :
  Calls Try.prog 102 #[.func (.func 103) #[x] #[]] w fun e w'=>e=.returned (.tuple #[.agg #[.int .i64 0,.int .i64 0,.int .i64 0],.bool false])∧∃w1,S w1∧w'=(((w1.setCell ⟨w.heap.size,0,none⟩ (.int .i64 0)).setCell ⟨w.heap.size,1,none⟩ (.int .i64 0)).setCell ⟨w.heap.size,2,none⟩ (.int .i64 0)).setCell ⟨w.heap.size+1,0,none⟩ (.bool false):=by
 have hmf:∀(fn:Fn) (first cap:Array Value) (w:World),(Instr.makeFunc fn first cap).run Try.prog w=.ok (.func fn first cap) w:=fun _ _ _ _=>rfl
 have HC:Hid (_):=hc
 clear hc
 go_enter_defers Try.func102,Try.ntmps102
 go_wp2_with (go_at_call 103;refine Calls.mono HC.out ?_;rintro e w1 ⟨rfl,b1,b2,s1⟩;have c0:w1.cell? ⟨w.heap.size,0,none⟩=some (.int .i64 0):=(by simp [World.cell?,b1]);have c1:w1.cell? ⟨w.heap.size,1,none⟩=some (.int .i64 0):=(by simp [World.cell?,b1]);have c2:w1.cell? ⟨w.heap.size,2,none⟩=some (.int .i64 0):=(by simp [World.cell?,b1]);have c3:w1.cell? ⟨w.heap.size+1,0,none⟩=some (.bool false):=(by simp [World.cell?,b2]);have f0:∀i,w1.frozen? ⟨w.heap.size,i,none⟩=false:=(fun i=>by simp [World.frozen?,b1]);have f1:w1.frozen? ⟨w.heap.size+1,0,none⟩=false:=(by simp [World.frozen?,b2]))
 refine leaves_cons (f:=123) (args:=#[.pointer (some ⟨w.heap.size,0,none⟩),.pointer (some ⟨w.heap.size+1,0,none⟩)]) (by simp) (by simp [go_sem]) ?_
 refine (catch_idle ⟨w.heap.size,0,none⟩ ⟨w.heap.size+1,0,none⟩ _).mono ?_
 rintro e u' w'' ⟨rfl,rfl,rfl⟩
 obtain ⟨WF,hWF⟩:∃WF,WF=(((w1.setCell ⟨w.heap.size,0,none⟩ (.int .i64 0)).setCell ⟨w.heap.size,1,none⟩ (.int .i64 0)).setCell ⟨w.heap.size,2,none⟩ (.int .i64 0)).setCell ⟨w.heap.size+1,0,none⟩ (.bool false):=⟨_,rfl⟩
 have hbS:WF.heap[w.heap.size]?=some stopZ:=by
  rw [hWF,block_far (by omega),block_set (block_set (block_set b1 _) _)];rfl
 have hbB:WF.heap[w.heap.size+1]?=some boolZ:=by
  have h2:(((w1.setCell ⟨w.heap.size,0,none⟩ (.int .i64 0)).setCell ⟨w.heap.size,1,none⟩ (.int .i64 0)).setCell ⟨w.heap.size,2,none⟩ (.int .i64 0)).heap[w.heap.size+1]?=some boolZ:=by
   rw [block_far (by omega),block_far (by omega),block_far (by omega)];exact b2
  rw [hWF,block_set h2];rfl
 have d0:WF.cell? ⟨w.heap.size,0,none⟩=some (.int .i64 0):=by rw [cell_blk hbS];rfl
 have d1:WF.cell? ⟨w.heap.size,1,none⟩=some (.int .i64 0):=by rw [cell_blk hbS];rfl
 have d2:WF.cell? ⟨w.heap.size,2,none⟩=some (.int .i64 0):=by rw [cell_blk hbS];rfl
 have d3:WF.cell? ⟨w.heap.size+1,0,none⟩=some (.bool false):=by rw [cell_blk hbB];rfl
 rw [←hWF]
 have hex:∃w1,S w1∧WF=(((w1.setCell ⟨w.heap.size,0,none⟩ (.int .i64 0)).setCell ⟨w.heap.size,1,none⟩ (.int .i64 0)).setCell ⟨w.heap.size,2,none⟩ (.int .i64 0)).setCell ⟨w.heap.size+1,0,none⟩ (.bool false):=⟨w1,s1,hWF⟩
 simp [Leaves,settle,results,Try.results102,go_sem,d0,d1,d2,d3]
 exact hex
set_option maxRecDepth 100000 in
theorem attemptU_stop (x y:Value) (how k n:Int) (S:World→Prop) (w:World)
  (hc:Calls Try.prog 104 #[x,y] ((w.alloc stopZ).alloc boolZ) fun e w'=>e=stopE how k n∧w'.heap[w.heap.size]?=some stopZ∧w'.heap[w.heap.size+1]?=some boolZ∧S w') :
  Calls Try.prog 102 #[.func (.func 104) #[] #[x,y]] w fun e w'=>e=.returned (.tuple #[.agg #[.int .i64 how,.int .i64 k,.int .i64 n],.bool true])∧∃w1,S w1∧w'=((((w1.setCell ⟨w.heap.size,0,none⟩ (.int .i64 how)).setCell ⟨w.heap.size,1,none⟩ (.int .i64 k)).setCell ⟨w.heap.size,2,none⟩ (.int .i64 n)).setCell ⟨w.heap.size+1,0,none⟩ (.bool true)).alloc (.cells #[.int .i64 how,.int .i64 k,.int .i64 n] 111):=by
 have hmf:∀(fn:Fn) (first cap:Array Value) (w:World),(Instr.makeFunc fn first cap).run Try.prog w=.ok (.func fn first cap) w:=fun _ _ _ _=>rfl
 have HC:Hid (_):=hc
 clear hc
 go_enter_defers Try.func102,Try.ntmps102
 go_wp2_with (go_at_call 104;refine Calls.mono HC.out ?_;rintro e w1 ⟨rfl,b1,b2,s1⟩)
 have c0:w1.cell? ⟨w.heap.size,0,none⟩=some (.int .i64 0):=by simp [World.cell?,b1]
 have c1:w1.cell? ⟨w.heap.size,1,none⟩=some (.int .i64 0):=by simp [World.cell?,b1]
 have c2:w1.cell? ⟨w.heap.size,2,none⟩=some (.int .i64 0):=by simp [World.cell?,b1]
 have c3:w1.cell? ⟨w.heap.size+1,0,none⟩=some (.bool false):=by simp [World.cell?,b2]
 refine leaves_cons (f:=123) (args:=#[.pointer (some ⟨w.heap.size,0,none⟩),.pointer (some ⟨w.heap.size+1,0,none⟩)]) (by simp) (by simp [go_sem]) ?_
 refine (catch_stop w.heap.size (w.heap.size+1) how k n _ _ _ _ [] w1 c0 c1 c2 c3 (fun i=>by simp [World.frozen?,b1]) (by simp [World.frozen?,b2]) (by omega)).mono ?_
 rintro e u' w'' ⟨rfl,rfl,rfl⟩
 obtain ⟨WF,hWF⟩:∃WF,WF=((((w1.setCell ⟨w.heap.size,0,none⟩ (.int .i64 how)).setCell ⟨w.heap.size,1,none⟩ (.int .i64 k)).setCell ⟨w.heap.size,2,none⟩ (.int .i64 n)).setCell ⟨w.heap.size+1,0,none⟩ (.bool true)).alloc (.cells #[.int .i64 how,.int .i64 k,.int .i64 n] 111):=⟨_,rfl⟩
 have hbS:WF.heap[w.heap.size]?=some (.cells #[.int .i64 how,.int .i64 k,.int .i64 n] 111 (0,0)):=by
  have h1:((((w1.setCell ⟨w.heap.size,0,none⟩ (.int .i64 how)).setCell ⟨w.heap.size,1,none⟩ (.int .i64 k)).setCell ⟨w.heap.size,2,none⟩ (.int .i64 n)).setCell ⟨w.heap.size+1,0,none⟩ (.bool true)).heap[w.heap.size]?=some (.cells #[.int .i64 how,.int .i64 k,.int .i64 n] 111 (0,0)):=by
   rw [block_far (by omega),block_set (block_set (block_set b1 _) _)];rfl
  rw [hWF,Below.heap_alloc _ _ _ (lt_some h1)];exact h1
 have hbB:WF.heap[w.heap.size+1]?=some (.cells #[.bool true] 4 (0,0)):=by
  have h1:((((w1.setCell ⟨w.heap.size,0,none⟩ (.int .i64 how)).setCell ⟨w.heap.size,1,none⟩ (.int .i64 k)).setCell ⟨w.heap.size,2,none⟩ (.int .i64 n)).setCell ⟨w.heap.size+1,0,none⟩ (.bool true)).heap[w.heap.size+1]?=some (.cells #[.bool true] 4 (0,0)):=by
   have h2:(((w1.setCell ⟨w.heap.size,0,none⟩ (.int .i64 how)).setCell ⟨w.heap.size,1,none⟩ (.int .i64 k)).setCell ⟨w.heap.size,2,none⟩ (.int .i64 n)).heap[w.heap.size+1]?=some boolZ:=by
    rw [block_far (by omega),block_far (by omega),block_far (by omega)];exact b2
   rw [block_set h2];rfl
  rw [hWF,Below.heap_alloc _ _ _ (lt_some h1)];exact h1
 have d0:WF.cell? ⟨w.heap.size,0,none⟩=some (.int .i64 how):=by rw [cell_blk hbS];rfl
 have d1:WF.cell? ⟨w.heap.size,1,none⟩=some (.int .i64 k):=by rw [cell_blk hbS];rfl
 have d2:WF.cell? ⟨w.heap.size,2,none⟩=some (.int .i64 n):=by rw [cell_blk hbS];rfl
 have d3:WF.cell? ⟨w.heap.size+1,0,none⟩=some (.bool true):=by rw [cell_blk hbB];rfl
 rw [←hWF]
 have hex:∃w1,S w1∧WF=((((w1.setCell ⟨w.heap.size,0,none⟩ (.int .i64 how)).setCell ⟨w.heap.size,1,none⟩ (.int .i64 k)).setCell ⟨w.heap.size,2,none⟩ (.int .i64 n)).setCell ⟨w.heap.size+1,0,none⟩ (.bool true)).alloc (.cells #[.int .i64 how,.int .i64 k,.int .i64 n] 111):=⟨w1,s1,hWF⟩
 simp [Leaves,settle,results,Try.results102,go_sem,d0,d1,d2,d3]
 exact hex
set_option maxRecDepth 100000 in
theorem attemptU_done (x y:Value) (S:World→Prop) (w:World)
  (hc:Calls Try.prog 104 #[x,y] ((w.alloc stopZ).alloc boolZ) fun e w'=>e=.returned (.tuple #[])∧w'.heap[w.heap.size]?=some stopZ∧w'.heap[w.heap.size+1]?=some boolZ∧S w') :
  Calls Try.prog 102 #[.func (.func 104) #[] #[x,y]] w fun e w'=>e=.returned (.tuple #[.agg #[.int .i64 0,.int .i64 0,.int .i64 0],.bool false])∧∃w1,S w1∧w'=(((w1.setCell ⟨w.heap.size,0,none⟩ (.int .i64 0)).setCell ⟨w.heap.size,1,none⟩ (.int .i64 0)).setCell ⟨w.heap.size,2,none⟩ (.int .i64 0)).setCell ⟨w.heap.size+1,0,none⟩ (.bool false):=by
 have hmf:∀(fn:Fn) (first cap:Array Value) (w:World),(Instr.makeFunc fn first cap).run Try.prog w=.ok (.func fn first cap) w:=fun _ _ _ _=>rfl
 have HC:Hid (_):=hc
 clear hc
 go_enter_defers Try.func102,Try.ntmps102
 go_wp2_with (go_at_call 104;refine Calls.mono HC.out ?_;rintro e w1 ⟨rfl,b1,b2,s1⟩;have c0:w1.cell? ⟨w.heap.size,0,none⟩=some (.int .i64 0):=(by simp [World.cell?,b1]);have c1:w1.cell? ⟨w.heap.size,1,none⟩=some (.int .i64 0):=(by simp [World.cell?,b1]);have c2:w1.cell? ⟨w.heap.size,2,none⟩=some (.int .i64 0):=(by simp [World.cell?,b1]);have c3:w1.cell? ⟨w.heap.size+1,0,none⟩=some (.bool false):=(by simp [World.cell?,b2]);have f0:∀i,w1.frozen? ⟨w.heap.size,i,none⟩=false:=(fun i=>by simp [World.frozen?,b1]);have f1:w1.frozen? ⟨w.heap.size+1,0,none⟩=false:=(by simp [World.frozen?,b2]))
 refine leaves_cons (f:=123) (args:=#[.pointer (some ⟨w.heap.size,0,none⟩),.pointer (some ⟨w.heap.size+1,0,none⟩)]) (by simp) (by simp [go_sem]) ?_
 refine (catch_idle ⟨w.heap.size,0,none⟩ ⟨w.heap.size+1,0,none⟩ _).mono ?_
 rintro e u' w'' ⟨rfl,rfl,rfl⟩
 obtain ⟨WF,hWF⟩:∃WF,WF=(((w1.setCell ⟨w.heap.size,0,none⟩ (.int .i64 0)).setCell ⟨w.heap.size,1,none⟩ (.int .i64 0)).setCell ⟨w.heap.size,2,none⟩ (.int .i64 0)).setCell ⟨w.heap.size+1,0,none⟩ (.bool false):=⟨_,rfl⟩
 have hbS:WF.heap[w.heap.size]?=some stopZ:=by
  rw [hWF,block_far (by omega),block_set (block_set (block_set b1 _) _)];rfl
 have hbB:WF.heap[w.heap.size+1]?=some boolZ:=by
  have h2:(((w1.setCell ⟨w.heap.size,0,none⟩ (.int .i64 0)).setCell ⟨w.heap.size,1,none⟩ (.int .i64 0)).setCell ⟨w.heap.size,2,none⟩ (.int .i64 0)).heap[w.heap.size+1]?=some boolZ:=by
   rw [block_far (by omega),block_far (by omega),block_far (by omega)];exact b2
  rw [hWF,block_set h2];rfl
 have d0:WF.cell? ⟨w.heap.size,0,none⟩=some (.int .i64 0):=by rw [cell_blk hbS];rfl
 have d1:WF.cell? ⟨w.heap.size,1,none⟩=some (.int .i64 0):=by rw [cell_blk hbS];rfl
 have d2:WF.cell? ⟨w.heap.size,2,none⟩=some (.int .i64 0):=by rw [cell_blk hbS];rfl
 have d3:WF.cell? ⟨w.heap.size+1,0,none⟩=some (.bool false):=by rw [cell_blk hbB];rfl
 rw [←hWF]
 have hex:∃w1,S w1∧WF=(((w1.setCell ⟨w.heap.size,0,none⟩ (.int .i64 0)).setCell ⟨w.heap.size,1,none⟩ (.int .i64 0)).setCell ⟨w.heap.size,2,none⟩ (.int .i64 0)).setCell ⟨w.heap.size+1,0,none⟩ (.bool false):=⟨w1,s1,hWF⟩
 simp [Leaves,settle,results,Try.results102,go_sem,d0,d1,d2,d3]
 exact hex
end Go.Proofs.Ytgiiapenmjollaa
