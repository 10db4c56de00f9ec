import Derived.Test.YtgiiapenmjollabGreatRlai
import Derived.Defers
import Derived.Recover
namespace Go.Proofs.YtgiiapenmjollabGreat
set_option linter.all false
set_option maxHeartbeats 40000000
set_option maxRecDepth 100000
open Go.RowKit
theorem results_cell_tmpm {P:Program} {fn:Func} {p q:Tmp} {ty:TypeId} (h:fn.results=#[.cell p ty,.tmp q]) (tmps:Array Value) (w:World) (b:Nat) (t:TypeId) (cs:Array Value) (v:Value) (fr:Nat×Nat) (d:TypeDesc)
  (hp:tmps.getD p undef=.pointer (some ⟨b,0,none⟩)) (hq:tmps.getD q undef=v) (hb:w.heap[b]?=some (.cells cs t fr))
  (hu:P.underlying ty=some d) (hd:(match d with | .struct _ | .array _ _=>true|_=>false)=true) (hi:(P.info? ty).map (·.size)=some cs.size) :
  (results fn tmps).run P w=.ok (.tuple #[.agg cs,v]) w:=by
 have hp':tmps[p]?.getD undef=.pointer (some ⟨b,0,none⟩):=by simpa using hp
 have hq':tmps[q]?.getD undef=v:=by simpa using hq
 simp [results,h,hp',hq',asAddr,run_loadVar_row w b t ty cs fr d hb hu hd hi]
theorem info_hd:(Tryz.prog.info? 98).map (·.size)=some 4:=by kernel_rfl
abbrev hdC (x:Hd):Array Value:=#[.int .i64 x.fr,.int .i64 x.til,.int .i64 x.pc,.int .i64 x.cls]
def HdQ (h:Hp) (pc:Int) (l:List Hd) (w:World) (e:Ending) (w':World):Prop :=
 Bl w w'∧∃x:Hd,(0≤h.caughtL pc l∧x.pc=h.caughtL pc l∧e=.returned (.tuple #[.agg (hdC x),.bool true]))∨(h.caughtL pc l<0∧e=.returned (.tuple #[.agg (hdC x),.bool false]))
theorem set_four {w:World} {b:Nat} {u0 u1 u2 u3:Value} {t:TypeId} (h:w.heap[b]?=some (.cells #[u0,u1,u2,u3] t (0,0))) (v0 v1 v2 v3:Value):((((w.setCell ⟨b,0,none⟩ v0).setCell ⟨b,1,none⟩ v1).setCell ⟨b,2,none⟩ v2).setCell ⟨b,3,none⟩ v3).heap[b]?=some (.cells #[v0,v1,v2,v3] t (0,0)):=by
 rw [block_set (block_set (block_set (block_set h _) _) _)];rfl
theorem bl_four {w v:World} (h:Bl w v) {b:Nat} (hb:w.heap.size≤b) (y0 y1 y2 y3:Value):Bl w ((((v.setCell ⟨b,0,none⟩ y0).setCell ⟨b,1,none⟩ y1).setCell ⟨b,2,none⟩ y2).setCell ⟨b,3,none⟩ y3) :=
 (((h.setCell (p:=⟨b,0,none⟩) hb _).setCell (p:=⟨b,1,none⟩) hb _).setCell (p:=⟨b,2,none⟩) hb _).setCell (p:=⟨b,3,none⟩) hb _
abbrev hdZ:Obj:=.cells #[.int .i64 0,.int .i64 0,.int .i64 0,.int .i64 0] 98
theorem handler_any (g:Mg) (h:Hp) (v:Va) (l:List Hd) (A:Option Addr) (cap:Nat) (pc:Int) (w:World) (R:HRd w g h) (hA:HdsAt w A l) (hv:v.kind=3) (h0:0≤v.n) (hn:v.n<h.objs.length) (ht:h.thrown=v.n)
  (hok:∀q,q<l.length→0≤(nth hd0 l q).fr∧(nth hd0 l q).til≤3000∧0≤(nth hd0 l q).til∧0≤(nth hd0 l q).pc) (hpc:0≤pc∧pc≤3000) :
  Calls Tryz.prog 143 #[.pointer (some ⟨g.hb,0,none⟩),.slice A l.length cap,.int .i64 pc,mvV (im v)] w fun e w'=>HdQ h pc l w e w':=by
 have HR:=hid R
 have HA:=hid hA
 have HV:Hid (v.kind=3∧0≤v.n∧v.n<h.objs.length∧h.thrown=v.n):=⟨hv,h0,hn,ht⟩
 have HOK:=hid hok
 have hlm:=hA.1
 unfold maxLen at hlm
 have HAL:Hid (Bl w ((w.alloc (mvO (im v))).alloc hdZ)):=((Bl.refl w).alloc _).alloc _
 obtain ⟨L0,L1⟩:=two_lie w #[.int .i64 (im v).kind,.int .i64 (im v).n] #[.int .i64 0,.int .i64 0,.int .i64 0,.int .i64 0] 115 98
 have HL:Hid (((w.alloc (mvO (im v))).alloc hdZ).heap[w.heap.size]?=some (.cells #[.int .i64 (im v).kind,.int .i64 (im v).n] 115 (0,0))∧((w.alloc (mvO (im v))).alloc hdZ).heap[w.heap.size+1]?=some (.cells #[.int .i64 0,.int .i64 0,.int .i64 0,.int .i64 0] 98 (0,0))):=⟨L0,L1⟩
 clear R hA hv h0 hn ht hok L0 L1
 go_enter Tryz.func143,Tryz.ntmps143
 go_wp2
 go_loopw [14] (fun i wr=>∃q:Nat,q≤l.length∧i=.int .i64 q∧Hid (h.caughtL pc l=h.caughtL pc (l.drop q))∧Hid (Bl w wr)∧Hid (wr.heap[w.heap.size]?=some (.cells #[.int .i64 (im v).kind,.int .i64 (im v).n] 115 (0,0))∧wr.heap[w.heap.size+1]?=some (.cells #[.int .i64 0,.int .i64 0,.int .i64 0,.int .i64 0] 98 (0,0)))) (fun i _=>l.length-(intOf i).toNat)
 case atStart=>exact ⟨0,Nat.zero_le _,rfl,(show h.caughtL pc l=h.caughtL pc (l.drop 0) from rfl),HAL.out,HL.out⟩
 case round =>
  clear HL HAL
  obtain ⟨q,hq,rfl,hc,hg,HL⟩:=hrel
  by_cases hql:q<l.length
  ·rcases (HA.out.bl hg.out).2 with z0|⟨b,off,rfl,hcell⟩
   ·omega
   obtain ⟨x0,x1,x2,x3,-⟩:=hcell q hql
   obtain ⟨o1,o2,o3,o4⟩:=HOK.out q hql
   have HSK:Hid (h.fits (nth hd0 l q) pc=false→h.caughtL pc (l.drop q)=h.caughtL pc (l.drop (q+1))):=fun e=>caught_skip hql e
   have HHT:Hid (h.fits (nth hd0 l q) pc=true→h.caughtL pc (l.drop q)=(nth hd0 l q).pc):=fun e=>caught_hit hql e
   generalize hX:nth hd0 l q=x at *
   have HB:Hid (∀w',Bl wr w'→Calls Tryz.prog 210 #[.pointer (some ⟨g.hb,0,none⟩),mvV (im v),.int .i64 x.cls] w' fun e w2=>e=.returned (.bool (belI h.file.classes (h.obj v.n).cls x.cls))∧Bl w' w2):=fun w' hb=>by
    have:=mbelow_any g h v x.cls w' ((HR.out.bl hg.out).bl hb) HV.out.1 (by have:=HV.out.2.1;omega) HV.out.2.2.1
    rwa [decide_eq_true HV.out.2.1,Bool.true_and] at this
   have HFT:Hid (h.fits x pc=(decide (x.fr≤pc∧pc≤x.til-1)&&belI h.file.classes (h.obj v.n).cls x.cls)):=by
    show h.fits x pc=_
    unfold Hp.fits
    rw [HV.out.2.2.2,Bool.eq_iff_iff]
    simp only [Bool.and_eq_true,decide_eq_true_eq]
    constructor
    ·rintro ⟨a,b,c⟩;exact ⟨by omega,c⟩
    ·rintro ⟨a,c⟩;exact ⟨by omega,by omega,c⟩
   have k0:=c0_of HL.out.1
   have k1:=c1_of HL.out.1
   have hlt:=lt_some HL.out.2
   clear hcell hX
   have K0:∀o,(wr.alloc o).cell? ⟨w.heap.size,0,none⟩=some (.int .i64 (im v).kind):=fun o=>((Bl.refl wr).alloc o).cell k0
   have K1:∀o,(wr.alloc o).cell? ⟨w.heap.size,1,none⟩=some (.int .i64 (im v).n):=fun o=>((Bl.refl wr).alloc o).cell k1
   obtain ⟨T,hT⟩:∃T,decide (x.fr≤pc∧pc≤x.til-1)=T:=⟨_,rfl⟩
   obtain ⟨U,hU⟩:∃U,belI h.file.classes (h.obj v.n).cls x.cls=U:=⟨_,rfl⟩
   have HT:=hid hT
   have HU:=hid hU
   rw [hT,hU] at HFT
   have bn:=blk_new wr #[.int .i64 x.fr,.int .i64 x.til,.int .i64 x.pc,.int .i64 x.cls] 98
   have HBN:=hid bn
   clear hT hU bn
   cases T with
   | false =>
    have HNO:=hid (HSK.out (HFT.out.trans rfl))
    go_wp2_with (go_at_call 63;refine (span_any _ _ _ _).mono ?_;rintro e w0 ⟨he,hw0⟩;rw [HT.out] at he;subst he;rw [hw0];clear hw0 w0)
    go_roundw
    case rel=>exact ⟨q+1,by omega,by go_num,hc.out.trans HNO.out,hg.out.alloc _,bl_blk ((Bl.refl wr).alloc _) HL.out.1,bl_blk ((Bl.refl wr).alloc _) HL.out.2⟩
    case measure=>simp [intOf];omega
   | true =>
    cases U with
    | false =>
     have HNO:=hid (HSK.out (HFT.out.trans rfl))
     go_wp2_with (first
      | (go_at_call 63;refine (span_any _ _ _ _).mono ?_;rintro e w0 ⟨he,hw0⟩;rw [HT.out] at he;subst he;rw [hw0];clear hw0 w0)
      | (go_at_call 210;refine (HB.out _ ((Bl.refl wr).alloc _)).mono ?_;rintro e w2 ⟨he,b2⟩;rw [HU.out] at he;subst he;replace b2:=hid b2))
     go_roundw
     case rel=>exact ⟨q+1,by omega,by go_num,hc.out.trans HNO.out,(hg.out.alloc _).trans b2.out,bl_blk (((Bl.refl wr).alloc _).trans b2.out) HL.out.1,bl_blk (((Bl.refl wr).alloc _).trans b2.out) HL.out.2⟩
     case measure=>simp [intOf];omega
    | true =>
     have HYES:=hid (hc.out.trans (HHT.out (HFT.out.trans rfl)))
     go_wp2_with (first
      | (go_at_call 63;refine (span_any _ _ _ _).mono ?_;rintro e w0 ⟨he,hw0⟩;rw [HT.out] at he;subst he;rw [hw0];clear hw0 w0)
      | (go_at_call 210;refine (HB.out _ ((Bl.refl wr).alloc _)).mono ?_;rintro e w2 ⟨he,b2⟩;rw [HU.out] at he;subst he;have q2:=bl_blk (((Bl.refl wr).alloc _).trans b2) HL.out.2;have fz:=free_blk q2;have y0:w2.cell? ⟨w.heap.size+1,0,none⟩=some (.int .i64 0):=(cell_blk q2).trans rfl;have y1:w2.cell? ⟨w.heap.size+1,1,none⟩=some (.int .i64 0):=(cell_blk q2).trans rfl;have y2:w2.cell? ⟨w.heap.size+1,2,none⟩=some (.int .i64 0):=(cell_blk q2).trans rfl;have y3:w2.cell? ⟨w.heap.size+1,3,none⟩=some (.int .i64 0):=(cell_blk q2).trans rfl;have q5:=bl_blk b2 HBN.out;have p0:w2.cell? ⟨wr.heap.size,0,none⟩=some (.int .i64 x.fr):=(cell_blk q5).trans rfl;have p1:w2.cell? ⟨wr.heap.size,1,none⟩=some (.int .i64 x.til):=(cell_blk q5).trans rfl;have p2:w2.cell? ⟨wr.heap.size,2,none⟩=some (.int .i64 x.pc):=(cell_blk q5).trans rfl;have p3:w2.cell? ⟨wr.heap.size,3,none⟩=some (.int .i64 x.cls):=(cell_blk q5).trans rfl;replace q2:=hid q2;replace q5:=hid q5;replace b2:=hid b2))
     refine bodyPost_ret (results_cell_tmpm rfl _ _ (w.heap.size+1) _ _ _ _ _ rfl rfl (set_four q2.out _ _ _ _) Tryz.underlying98 rfl info_hd) rfl ?_
     exact ⟨bl_four ((hg.out.alloc _).trans b2.out) (Nat.le_succ _) _ _ _ _,x,Or.inl ⟨by rw [HYES.out];exact o4,HYES.out.symm,rfl⟩⟩
  ·obtain rfl:q=l.length:=by omega
   have q2:=HL.out.2
   have fz:=free_blk q2
   have y0:wr.cell? ⟨w.heap.size+1,0,none⟩=some (.int .i64 0):=(cell_blk q2).trans rfl
   have y1:wr.cell? ⟨w.heap.size+1,1,none⟩=some (.int .i64 0):=(cell_blk q2).trans rfl
   have y2:wr.cell? ⟨w.heap.size+1,2,none⟩=some (.int .i64 0):=(cell_blk q2).trans rfl
   have y3:wr.cell? ⟨w.heap.size+1,3,none⟩=some (.int .i64 0):=(cell_blk q2).trans rfl
   replace q2:=hid q2
   go_wp2
   refine bodyPost_ret (results_cell_tmpm rfl _ _ (w.heap.size+1) _ _ _ _ _ rfl rfl (set_four q2.out _ _ _ _) Tryz.underlying98 rfl info_hd) rfl ?_
   have hc':=hc.out
   rw [List.drop_length] at hc'
   exact ⟨bl_four hg.out (Nat.le_succ _) _ _ _ _,hd0,Or.inr ⟨by rw [hc'];show (-1:Int)<0;decide,rfl⟩⟩
theorem catch_idle (p q:Addr) (w:World) :
  CallsD Tryz.prog 211 #[.pointer (some p),.pointer (some q)] .returning w fun e u' w'=>e=.returned (.tuple #[])∧u'=.returning∧w'=w:=by
 refine callsD_of_wpS Tryz.func211 rfl fun c₀ cs hu=>?_
 apply wpS_seq
 apply wpS_region
 simp [wpOpsS,go_sem,recoverD,hu,Tryz.ntmps211,Exit.thenS]
 refine wpS_of_wp ?_
 go_wp2
 cases c₀
 simp_all [bodyPostS,results,Tryz.results211]
theorem assert_stop (x:Value) (w:World):(Instr.typeAssert (.iface 126 x) 20 126 true).run Tryz.prog w=.ok (.tuple #[x,.bool true]) w:=by
 simp [Instr.typeAssert,run_underlying Tryz.underlying126]
theorem catch_stop (p q:Nat) (how k n:Int) (a0 a1 a2 b0:Value) (older:List PanicEntry) (w:World) (h0:w.cell? ⟨p,0,none⟩=some a0) (h1:w.cell? ⟨p,1,none⟩=some a1) (h2:w.cell? ⟨p,2,none⟩=some a2) (h3:w.cell? ⟨q,0,none⟩=some b0) (f0:∀i,w.frozen? ⟨p,i,none⟩=false) (f1:w.frozen? ⟨q,0,none⟩=false) (hne:p≠q) :
  CallsD Tryz.prog 211 #[.pointer (some ⟨p,0,none⟩),.pointer (some ⟨q,0,none⟩)] (.panicking ({ v:=.iface 126 (.agg #[.int .i64 how,.int .i64 k,.int .i64 n]),recovered:=false }::older)) w fun e u' w' =>
   e=.returned (.tuple #[])∧u'=.panicking ({ v:=.iface 126 (.agg #[.int .i64 how,.int .i64 k,.int .i64 n]),recovered:=true }::older)∧w'=((((w.setCell ⟨p,0,none⟩ (.int .i64 how)).setCell ⟨p,1,none⟩ (.int .i64 k)).setCell ⟨p,2,none⟩ (.int .i64 n)).setCell ⟨q,0,none⟩ (.bool true)).alloc (.cells #[.int .i64 how,.int .i64 k,.int .i64 n] 126):=by
 refine callsD_of_wpS Tryz.func211 rfl fun c₀ cs hu=>?_
 apply wpS_seq
 apply wpS_region
 simp [wpOpsS,go_sem,recoverD,hu,Tryz.ntmps211,Exit.thenS]
 refine wpS_of_wp ?_
 have he:(#[Value.pointer (some ⟨p,0,none⟩),Value.pointer (some ⟨q,0,none⟩)]++(Array.replicate 10 undef).setIfInBounds 3 (.iface 126 (.agg #[.int .i64 how,.int .i64 k,.int .i64 n])))=#[.pointer (some ⟨p,0,none⟩),.pointer (some ⟨q,0,none⟩),undef,undef,undef,.iface 126 (.agg #[.int .i64 how,.int .i64 k,.int .i64 n]),undef,undef,undef,undef,undef,undef]:=rfl
 rw [he]
 clear he
 have hts:=assert_stop (.agg #[.int .i64 how,.int .i64 k,.int .i64 n])
 have hp:=cell_lt h0
 have hq:=cell_lt h3
 go_wp2
 simp [bodyPostS,results,Tryz.results211]
abbrev stopZ:Obj:=.cells #[.int .i64 0,.int .i64 0,.int .i64 0] 126
abbrev boolZ:Obj:=.cells #[.bool false] 4
theorem attempt_stop (x:Value) (how k n:Int) (S:World→Prop) (w:World)
  (hc:Calls Tryz.prog 152 #[x] ((w.alloc stopZ).alloc boolZ) fun e w'=>e=stopE how k n∧w'.heap[w.heap.size]?=some stopZ∧w'.heap[w.heap.size+1]?=some boolZ∧S w') :
  Calls Tryz.prog 151 #[.func (.func 152) #[x] #[]] w fun e w'=>e=.returned (.tuple #[.agg #[.int .i64 how,.int .i64 k,.int .i64 n],.bool true])∧∃w1,S w1∧w'=((((w1.setCell ⟨w.heap.size,0,none⟩ (.int .i64 how)).setCell ⟨w.heap.size,1,none⟩ (.int .i64 k)).setCell ⟨w.heap.size,2,none⟩ (.int .i64 n)).setCell ⟨w.heap.size+1,0,none⟩ (.bool true)).alloc (.cells #[.int .i64 how,.int .i64 k,.int .i64 n] 126):=by
 have hmf:∀(fn:Fn) (first cap:Array Value) (w:World),(Instr.makeFunc fn first cap).run Tryz.prog w=.ok (.func fn first cap) w:=fun _ _ _ _=>rfl
 have HC:Hid (_):=hc
 clear hc
 go_enter_defers Tryz.func151,Tryz.ntmps151
 go_wp2_with (go_at_call 152;refine Calls.mono HC.out ?_;rintro e w1 ⟨rfl,b1,b2,s1⟩)
 have c0:w1.cell? ⟨w.heap.size,0,none⟩=some (.int .i64 0):=by simp [World.cell?,b1]
 have c1:w1.cell? ⟨w.heap.size,1,none⟩=some (.int .i64 0):=by simp [World.cell?,b1]
 have c2:w1.cell? ⟨w.heap.size,2,none⟩=some (.int .i64 0):=by simp [World.cell?,b1]
 have c3:w1.cell? ⟨w.heap.size+1,0,none⟩=some (.bool false):=by simp [World.cell?,b2]
 refine leaves_cons (f:=211) (args:=#[.pointer (some ⟨w.heap.size,0,none⟩),.pointer (some ⟨w.heap.size+1,0,none⟩)]) (by simp) (by simp [go_sem]) ?_
 refine (catch_stop w.heap.size (w.heap.size+1) how k n _ _ _ _ [] w1 c0 c1 c2 c3 (fun i=>by simp [World.frozen?,b1]) (by simp [World.frozen?,b2]) (by omega)).mono ?_
 rintro e u' w'' ⟨rfl,rfl,rfl⟩
 obtain ⟨WF,hWF⟩:∃WF,WF=((((w1.setCell ⟨w.heap.size,0,none⟩ (.int .i64 how)).setCell ⟨w.heap.size,1,none⟩ (.int .i64 k)).setCell ⟨w.heap.size,2,none⟩ (.int .i64 n)).setCell ⟨w.heap.size+1,0,none⟩ (.bool true)).alloc (.cells #[.int .i64 how,.int .i64 k,.int .i64 n] 126):=⟨_,rfl⟩
 have hbS:WF.heap[w.heap.size]?=some (.cells #[.int .i64 how,.int .i64 k,.int .i64 n] 126 (0,0)):=by
  have h1:((((w1.setCell ⟨w.heap.size,0,none⟩ (.int .i64 how)).setCell ⟨w.heap.size,1,none⟩ (.int .i64 k)).setCell ⟨w.heap.size,2,none⟩ (.int .i64 n)).setCell ⟨w.heap.size+1,0,none⟩ (.bool true)).heap[w.heap.size]?=some (.cells #[.int .i64 how,.int .i64 k,.int .i64 n] 126 (0,0)):=by
   rw [block_far (by omega),block_set (block_set (block_set b1 _) _)];rfl
  rw [hWF,Below.heap_alloc _ _ _ (lt_some h1)];exact h1
 have hbB:WF.heap[w.heap.size+1]?=some (.cells #[.bool true] 4 (0,0)):=by
  have h1:((((w1.setCell ⟨w.heap.size,0,none⟩ (.int .i64 how)).setCell ⟨w.heap.size,1,none⟩ (.int .i64 k)).setCell ⟨w.heap.size,2,none⟩ (.int .i64 n)).setCell ⟨w.heap.size+1,0,none⟩ (.bool true)).heap[w.heap.size+1]?=some (.cells #[.bool true] 4 (0,0)):=by
   have h2:(((w1.setCell ⟨w.heap.size,0,none⟩ (.int .i64 how)).setCell ⟨w.heap.size,1,none⟩ (.int .i64 k)).setCell ⟨w.heap.size,2,none⟩ (.int .i64 n)).heap[w.heap.size+1]?=some boolZ:=by
    rw [block_far (by omega),block_far (by omega),block_far (by omega)];exact b2
   rw [block_set h2];rfl
  rw [hWF,Below.heap_alloc _ _ _ (lt_some h1)];exact h1
 have d0:WF.cell? ⟨w.heap.size,0,none⟩=some (.int .i64 how):=by rw [cell_blk hbS];rfl
 have d1:WF.cell? ⟨w.heap.size,1,none⟩=some (.int .i64 k):=by rw [cell_blk hbS];rfl
 have d2:WF.cell? ⟨w.heap.size,2,none⟩=some (.int .i64 n):=by rw [cell_blk hbS];rfl
 have d3:WF.cell? ⟨w.heap.size+1,0,none⟩=some (.bool true):=by rw [cell_blk hbB];rfl
 rw [←hWF]
 have hex:∃w1,S w1∧WF=((((w1.setCell ⟨w.heap.size,0,none⟩ (.int .i64 how)).setCell ⟨w.heap.size,1,none⟩ (.int .i64 k)).setCell ⟨w.heap.size,2,none⟩ (.int .i64 n)).setCell ⟨w.heap.size+1,0,none⟩ (.bool true)).alloc (.cells #[.int .i64 how,.int .i64 k,.int .i64 n] 126):=⟨w1,s1,hWF⟩
 simp [Leaves,settle,results,Tryz.results151,go_sem,d0,d1,d2,d3]
 exact hex
theorem attempt_done (x:Value) (S:World→Prop) (w:World)
  (hc:Calls Tryz.prog 152 #[x] ((w.alloc stopZ).alloc boolZ) fun e w'=>e=.returned (.tuple #[])∧w'.heap[w.heap.size]?=some stopZ∧w'.heap[w.heap.size+1]?=some boolZ∧S w') :
  Calls Tryz.prog 151 #[.func (.func 152) #[x] #[]] w fun e w'=>e=.returned (.tuple #[.agg #[.int .i64 0,.int .i64 0,.int .i64 0],.bool false])∧∃w1,S w1∧w'=(((w1.setCell ⟨w.heap.size,0,none⟩ (.int .i64 0)).setCell ⟨w.heap.size,1,none⟩ (.int .i64 0)).setCell ⟨w.heap.size,2,none⟩ (.int .i64 0)).setCell ⟨w.heap.size+1,0,none⟩ (.bool false):=by
 have hmf:∀(fn:Fn) (first cap:Array Value) (w:World),(Instr.makeFunc fn first cap).run Tryz.prog w=.ok (.func fn first cap) w:=fun _ _ _ _=>rfl
 have HC:Hid (_):=hc
 clear hc
 go_enter_defers Tryz.func151,Tryz.ntmps151
 go_wp2_with (go_at_call 152;refine Calls.mono HC.out ?_;rintro e w1 ⟨rfl,b1,b2,s1⟩;have c0:w1.cell? ⟨w.heap.size,0,none⟩=some (.int .i64 0):=(by simp [World.cell?,b1]);have c1:w1.cell? ⟨w.heap.size,1,none⟩=some (.int .i64 0):=(by simp [World.cell?,b1]);have c2:w1.cell? ⟨w.heap.size,2,none⟩=some (.int .i64 0):=(by simp [World.cell?,b1]);have c3:w1.cell? ⟨w.heap.size+1,0,none⟩=some (.bool false):=(by simp [World.cell?,b2]);have f0:∀i,w1.frozen? ⟨w.heap.size,i,none⟩=false:=(fun i=>by simp [World.frozen?,b1]);have f1:w1.frozen? ⟨w.heap.size+1,0,none⟩=false:=(by simp [World.frozen?,b2]))
 refine leaves_cons (f:=211) (args:=#[.pointer (some ⟨w.heap.size,0,none⟩),.pointer (some ⟨w.heap.size+1,0,none⟩)]) (by simp) (by simp [go_sem]) ?_
 refine (catch_idle ⟨w.heap.size,0,none⟩ ⟨w.heap.size+1,0,none⟩ _).mono ?_
 rintro e u' w'' ⟨rfl,rfl,rfl⟩
 obtain ⟨WF,hWF⟩:∃WF,WF=(((w1.setCell ⟨w.heap.size,0,none⟩ (.int .i64 0)).setCell ⟨w.heap.size,1,none⟩ (.int .i64 0)).setCell ⟨w.heap.size,2,none⟩ (.int .i64 0)).setCell ⟨w.heap.size+1,0,none⟩ (.bool false):=⟨_,rfl⟩
 have hbS:WF.heap[w.heap.size]?=some stopZ:=by
  rw [hWF,block_far (by omega),block_set (block_set (block_set b1 _) _)];rfl
 have hbB:WF.heap[w.heap.size+1]?=some boolZ:=by
  have h2:(((w1.setCell ⟨w.heap.size,0,none⟩ (.int .i64 0)).setCell ⟨w.heap.size,1,none⟩ (.int .i64 0)).setCell ⟨w.heap.size,2,none⟩ (.int .i64 0)).heap[w.heap.size+1]?=some boolZ:=by
   rw [block_far (by omega),block_far (by omega),block_far (by omega)];exact b2
  rw [hWF,block_set h2];rfl
 have d0:WF.cell? ⟨w.heap.size,0,none⟩=some (.int .i64 0):=by rw [cell_blk hbS];rfl
 have d1:WF.cell? ⟨w.heap.size,1,none⟩=some (.int .i64 0):=by rw [cell_blk hbS];rfl
 have d2:WF.cell? ⟨w.heap.size,2,none⟩=some (.int .i64 0):=by rw [cell_blk hbS];rfl
 have d3:WF.cell? ⟨w.heap.size+1,0,none⟩=some (.bool false):=by rw [cell_blk hbB];rfl
 rw [←hWF]
 have hex:∃w1,S w1∧WF=(((w1.setCell ⟨w.heap.size,0,none⟩ (.int .i64 0)).setCell ⟨w.heap.size,1,none⟩ (.int .i64 0)).setCell ⟨w.heap.size,2,none⟩ (.int .i64 0)).setCell ⟨w.heap.size+1,0,none⟩ (.bool false):=⟨w1,s1,hWF⟩
 simp [Leaves,settle,results,Tryz.results151,go_sem,d0,d1,d2,d3]
 exact hex
theorem attemptU_stop (x y:Value) (how k n:Int) (S:World→Prop) (w:World)
  (hc:Calls Tryz.prog 153 #[x,y] ((w.alloc stopZ).alloc boolZ) fun e w'=>e=stopE how k n∧w'.heap[w.heap.size]?=some stopZ∧w'.heap[w.heap.size+1]?=some boolZ∧S w') :
  Calls Tryz.prog 151 #[.func (.func 153) #[] #[x,y]] w fun e w'=>e=.returned (.tuple #[.agg #[.int .i64 how,.int .i64 k,.int .i64 n],.bool true])∧∃w1,S w1∧w'=((((w1.setCell ⟨w.heap.size,0,none⟩ (.int .i64 how)).setCell ⟨w.heap.size,1,none⟩ (.int .i64 k)).setCell ⟨w.heap.size,2,none⟩ (.int .i64 n)).setCell ⟨w.heap.size+1,0,none⟩ (.bool true)).alloc (.cells #[.int .i64 how,.int .i64 k,.int .i64 n] 126):=by
 have hmf:∀(fn:Fn) (first cap:Array Value) (w:World),(Instr.makeFunc fn first cap).run Tryz.prog w=.ok (.func fn first cap) w:=fun _ _ _ _=>rfl
 have HC:Hid (_):=hc
 clear hc
 go_enter_defers Tryz.func151,Tryz.ntmps151
 go_wp2_with (go_at_call 153;refine Calls.mono HC.out ?_;rintro e w1 ⟨rfl,b1,b2,s1⟩)
 have c0:w1.cell? ⟨w.heap.size,0,none⟩=some (.int .i64 0):=by simp [World.cell?,b1]
 have c1:w1.cell? ⟨w.heap.size,1,none⟩=some (.int .i64 0):=by simp [World.cell?,b1]
 have c2:w1.cell? ⟨w.heap.size,2,none⟩=some (.int .i64 0):=by simp [World.cell?,b1]
 have c3:w1.cell? ⟨w.heap.size+1,0,none⟩=some (.bool false):=by simp [World.cell?,b2]
 refine leaves_cons (f:=211) (args:=#[.pointer (some ⟨w.heap.size,0,none⟩),.pointer (some ⟨w.heap.size+1,0,none⟩)]) (by simp) (by simp [go_sem]) ?_
 refine (catch_stop w.heap.size (w.heap.size+1) how k n _ _ _ _ [] w1 c0 c1 c2 c3 (fun i=>by simp [World.frozen?,b1]) (by simp [World.frozen?,b2]) (by omega)).mono ?_
 rintro e u' w'' ⟨rfl,rfl,rfl⟩
 obtain ⟨WF,hWF⟩:∃WF,WF=((((w1.setCell ⟨w.heap.size,0,none⟩ (.int .i64 how)).setCell ⟨w.heap.size,1,none⟩ (.int .i64 k)).setCell ⟨w.heap.size,2,none⟩ (.int .i64 n)).setCell ⟨w.heap.size+1,0,none⟩ (.bool true)).alloc (.cells #[.int .i64 how,.int .i64 k,.int .i64 n] 126):=⟨_,rfl⟩
 have hbS:WF.heap[w.heap.size]?=some (.cells #[.int .i64 how,.int .i64 k,.int .i64 n] 126 (0,0)):=by
  have h1:((((w1.setCell ⟨w.heap.size,0,none⟩ (.int .i64 how)).setCell ⟨w.heap.size,1,none⟩ (.int .i64 k)).setCell ⟨w.heap.size,2,none⟩ (.int .i64 n)).setCell ⟨w.heap.size+1,0,none⟩ (.bool true)).heap[w.heap.size]?=some (.cells #[.int .i64 how,.int .i64 k,.int .i64 n] 126 (0,0)):=by
   rw [block_far (by omega),block_set (block_set (block_set b1 _) _)];rfl
  rw [hWF,Below.heap_alloc _ _ _ (lt_some h1)];exact h1
 have hbB:WF.heap[w.heap.size+1]?=some (.cells #[.bool true] 4 (0,0)):=by
  have h1:((((w1.setCell ⟨w.heap.size,0,none⟩ (.int .i64 how)).setCell ⟨w.heap.size,1,none⟩ (.int .i64 k)).setCell ⟨w.heap.size,2,none⟩ (.int .i64 n)).setCell ⟨w.heap.size+1,0,none⟩ (.bool true)).heap[w.heap.size+1]?=some (.cells #[.bool true] 4 (0,0)):=by
   have h2:(((w1.setCell ⟨w.heap.size,0,none⟩ (.int .i64 how)).setCell ⟨w.heap.size,1,none⟩ (.int .i64 k)).setCell ⟨w.heap.size,2,none⟩ (.int .i64 n)).heap[w.heap.size+1]?=some boolZ:=by
    rw [block_far (by omega),block_far (by omega),block_far (by omega)];exact b2
   rw [block_set h2];rfl
  rw [hWF,Below.heap_alloc _ _ _ (lt_some h1)];exact h1
 have d0:WF.cell? ⟨w.heap.size,0,none⟩=some (.int .i64 how):=by rw [cell_blk hbS];rfl
 have d1:WF.cell? ⟨w.heap.size,1,none⟩=some (.int .i64 k):=by rw [cell_blk hbS];rfl
 have d2:WF.cell? ⟨w.heap.size,2,none⟩=some (.int .i64 n):=by rw [cell_blk hbS];rfl
 have d3:WF.cell? ⟨w.heap.size+1,0,none⟩=some (.bool true):=by rw [cell_blk hbB];rfl
 rw [←hWF]
 have hex:∃w1,S w1∧WF=((((w1.setCell ⟨w.heap.size,0,none⟩ (.int .i64 how)).setCell ⟨w.heap.size,1,none⟩ (.int .i64 k)).setCell ⟨w.heap.size,2,none⟩ (.int .i64 n)).setCell ⟨w.heap.size+1,0,none⟩ (.bool true)).alloc (.cells #[.int .i64 how,.int .i64 k,.int .i64 n] 126):=⟨w1,s1,hWF⟩
 simp [Leaves,settle,results,Tryz.results151,go_sem,d0,d1,d2,d3]
 exact hex
theorem attemptU_done (x y:Value) (S:World→Prop) (w:World)
  (hc:Calls Tryz.prog 153 #[x,y] ((w.alloc stopZ).alloc boolZ) fun e w'=>e=.returned (.tuple #[])∧w'.heap[w.heap.size]?=some stopZ∧w'.heap[w.heap.size+1]?=some boolZ∧S w') :
  Calls Tryz.prog 151 #[.func (.func 153) #[] #[x,y]] w fun e w'=>e=.returned (.tuple #[.agg #[.int .i64 0,.int .i64 0,.int .i64 0],.bool false])∧∃w1,S w1∧w'=(((w1.setCell ⟨w.heap.size,0,none⟩ (.int .i64 0)).setCell ⟨w.heap.size,1,none⟩ (.int .i64 0)).setCell ⟨w.heap.size,2,none⟩ (.int .i64 0)).setCell ⟨w.heap.size+1,0,none⟩ (.bool false):=by
 have hmf:∀(fn:Fn) (first cap:Array Value) (w:World),(Instr.makeFunc fn first cap).run Tryz.prog w=.ok (.func fn first cap) w:=fun _ _ _ _=>rfl
 have HC:Hid (_):=hc
 clear hc
 go_enter_defers Tryz.func151,Tryz.ntmps151
 go_wp2_with (go_at_call 153;refine Calls.mono HC.out ?_;rintro e w1 ⟨rfl,b1,b2,s1⟩;have c0:w1.cell? ⟨w.heap.size,0,none⟩=some (.int .i64 0):=(by simp [World.cell?,b1]);have c1:w1.cell? ⟨w.heap.size,1,none⟩=some (.int .i64 0):=(by simp [World.cell?,b1]);have c2:w1.cell? ⟨w.heap.size,2,none⟩=some (.int .i64 0):=(by simp [World.cell?,b1]);have c3:w1.cell? ⟨w.heap.size+1,0,none⟩=some (.bool false):=(by simp [World.cell?,b2]);have f0:∀i,w1.frozen? ⟨w.heap.size,i,none⟩=false:=(fun i=>by simp [World.frozen?,b1]);have f1:w1.frozen? ⟨w.heap.size+1,0,none⟩=false:=(by simp [World.frozen?,b2]))
 refine leaves_cons (f:=211) (args:=#[.pointer (some ⟨w.heap.size,0,none⟩),.pointer (some ⟨w.heap.size+1,0,none⟩)]) (by simp) (by simp [go_sem]) ?_
 refine (catch_idle ⟨w.heap.size,0,none⟩ ⟨w.heap.size+1,0,none⟩ _).mono ?_
 rintro e u' w'' ⟨rfl,rfl,rfl⟩
 obtain ⟨WF,hWF⟩:∃WF,WF=(((w1.setCell ⟨w.heap.size,0,none⟩ (.int .i64 0)).setCell ⟨w.heap.size,1,none⟩ (.int .i64 0)).setCell ⟨w.heap.size,2,none⟩ (.int .i64 0)).setCell ⟨w.heap.size+1,0,none⟩ (.bool false):=⟨_,rfl⟩
 have hbS:WF.heap[w.heap.size]?=some stopZ:=by
  rw [hWF,block_far (by omega),block_set (block_set (block_set b1 _) _)];rfl
 have hbB:WF.heap[w.heap.size+1]?=some boolZ:=by
  have h2:(((w1.setCell ⟨w.heap.size,0,none⟩ (.int .i64 0)).setCell ⟨w.heap.size,1,none⟩ (.int .i64 0)).setCell ⟨w.heap.size,2,none⟩ (.int .i64 0)).heap[w.heap.size+1]?=some boolZ:=by
   rw [block_far (by omega),block_far (by omega),block_far (by omega)];exact b2
  rw [hWF,block_set h2];rfl
 have d0:WF.cell? ⟨w.heap.size,0,none⟩=some (.int .i64 0):=by rw [cell_blk hbS];rfl
 have d1:WF.cell? ⟨w.heap.size,1,none⟩=some (.int .i64 0):=by rw [cell_blk hbS];rfl
 have d2:WF.cell? ⟨w.heap.size,2,none⟩=some (.int .i64 0):=by rw [cell_blk hbS];rfl
 have d3:WF.cell? ⟨w.heap.size+1,0,none⟩=some (.bool false):=by rw [cell_blk hbB];rfl
 rw [←hWF]
 have hex:∃w1,S w1∧WF=(((w1.setCell ⟨w.heap.size,0,none⟩ (.int .i64 0)).setCell ⟨w.heap.size,1,none⟩ (.int .i64 0)).setCell ⟨w.heap.size,2,none⟩ (.int .i64 0)).setCell ⟨w.heap.size+1,0,none⟩ (.bool false):=⟨w1,s1,hWF⟩
 simp [Leaves,settle,results,Tryz.results151,go_sem,d0,d1,d2,d3]
 exact hex
end Go.Proofs.YtgiiapenmjollabGreat
