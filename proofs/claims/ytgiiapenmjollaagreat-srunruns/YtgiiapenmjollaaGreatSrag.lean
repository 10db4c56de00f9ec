import Derived.Test.YtgiiapenmjollaaGreatSrac
import Derived.Test.YtgiiapenmjollaaGreatSraf
import Derived.Defers
import Derived.Recover
namespace Go.Proofs.YtgiiapenmjollaaGreat
set_option linter.all false
set_option maxHeartbeats 40000000
set_option maxRecDepth 100000
open Go.RowKit
open Go.Value (int)
open Go.IntKind (i64)
variable {h:Hp} {cs:List Cl} {b c d j k n o:Nat} {v:Va} {w:World}
theorem qA (w:World) (a b:Array Value) (s t:TypeId):((w.alloc (.cells a s)).alloc (.cells b t)).heap[w.heap.size]?=some (.cells a s (0,0))/\((w.alloc (.cells a s)).alloc (.cells b t)).heap[w.heap.size+1]?=some (.cells b t (0,0)):=by
 have h1:(w.alloc (.cells a s)).heap.size=w.heap.size+1:=by simp
 refine ⟨?_,?_⟩
 ·rw [Below.heap_alloc _ _ _ (by omega)];exact aD _ _ _
 ·rw [<-h1];exact aD _ _ _
theorem Ep (hb:Nat) (v:Va) (cc:Int) (w:World) (hk:v.kind=3) (hv:v.n=-1) :
  Calls Tryz.prog 186 #[.pointer (some ⟨hb,0,none⟩),cn (im v),int i64 cc] w fun e w'=>e=.returned (cn (im v))/\Bl w w':=by
 have HN:Hid (vB (im v)=true):=l6 hk hv
 obtain ⟨L0,L1⟩:=qA w #[int i64 (im v).kind,int i64 (im v).n] #[int i64 0,int i64 0] 100 100
 have oZ:=ab L0
 have gx:=ab L1
 have HB:Hid (Bl w ((w.alloc (dL (im v))).alloc eT)):=((Bl.refl w).alloc _).alloc _
 clear hk hv L0 L1
 go_enter Tryz.func186,Tryz.ntmps186
 go_wp2_with (go_at_call 90;refine (bX (im v) _).mono ?_;rintro e w2 ⟨he,b2⟩;rw [HN.out] at he;subst he;have q0:=ai b2 oZ.out;have q1:=ai b2 gx.out;have c0:=aK q0;have c1:=aI q0;have c4:=aK q1;have c5:=aI q1;have fz:=ay q1;replace b2:=ab b2;replace q1:=ab q1;clear q0)
 refine bodyPost_ret (results_cell_row rfl _ _ (w.heap.size+1) _ _ _ _ rfl (bQ q1.out) Tryz.underlying100 rfl bK) rfl ?_
 exact ⟨rfl,kB (HB.out.trans b2.out) (Nat.le_succ _) _ _⟩
theorem Er (g:Mg) (h:Hp) (v:Va) (cc:Int) (w:World) (R:oX w g h) (hk:v.kind=3) (hv:0<=v.n) (hn:v.n<h.objs.length) (hz:gH h.file.classes (h.obj v.n).cls cc=true) :
  Calls Tryz.prog 186 #[.pointer (some ⟨g.hb,0,none⟩),cn (im v),int i64 cc] w fun e w'=>e=.returned (cn (im v))/\Bl w w':=by
 have HN:Hid (vB (im v)=false):=lz hk hv
 have HV:Hid (v.kind=3/\0<=v.n/\v.n<h.objs.length):=⟨hk,hv,hn⟩
 have HZ:=ab hz
 have HR:=ab R
 obtain ⟨L0,L1⟩:=qA w #[int i64 (im v).kind,int i64 (im v).n] #[int i64 0,int i64 0] 100 100
 have oZ:=ab L0
 have gx:=ab L1
 have HB:Hid (Bl w ((w.alloc (dL (im v))).alloc eT)):=((Bl.refl w).alloc _).alloc _
 clear hk hv hn hz R L0 L1
 go_enter Tryz.func186,Tryz.ntmps186
 go_wp2_with (first
  | (go_at_call 90;refine (bX (im v) _).mono ?_;rintro e w2 ⟨he,b2⟩;rw [HN.out] at he;subst he;have q0:=ai b2 oZ.out;have q1:=ai b2 gx.out;have c0:=aK q0;have c1:=aI q0;replace b2:=ab b2;replace q1:=ab q1;replace q0:=ab q0)
  | (go_at_call 154;refine (jk g h v cc _ (HR.out.bl (HB.out.trans b2.out)) HV.out.1 HV.out.2.1 HV.out.2.2).mono ?_;rintro e w3 ⟨he,b3⟩;rw [HZ.out] at he;subst he;replace q0:=ab (ai b3 q0.out);replace q1:=ab (ai b3 q1.out);replace b2:=ab (b2.out.trans b3);clear c0 c1;have c0:=aK q0.out;have c1:=aI q0.out;have c4:=aK q1.out;have c5:=aI q1.out;have fz:=ay q1.out))
 refine bodyPost_ret (results_cell_row rfl _ _ (w.heap.size+1) _ _ _ _ rfl (bQ q1.out) Tryz.underlying100 rfl bK) rfl ?_
 exact ⟨rfl,kB (HB.out.trans b2.out) (Nat.le_succ _) _ _⟩
theorem IU (s:Nat) (X:Nat->Prop) (wx w0:World) (g:Mg) (h:Hp) (qs:List Nat) (a:Mc) (c:aH) (v:Va) (cc:Int) (w:World) (H:RX s X wx w0 g w h qs a c) (F:Fix w0 g h) (hl:h.objs.length<=100) (ho:h.over=false) (hk:v.kind=3) (hv:0<=v.n) (hn:v.n<h.objs.length) (hz:gH h.file.classes (h.obj v.n).cls cc=false) :
  Calls Tryz.prog 186 #[.pointer (some ⟨g.hb,0,none⟩),cn (im v),int i64 cc] w fun e w'=>e=bM h/\RX s X wx w0 g w' (h.raise 3) qs a c:=by
 have HN:Hid (vB (im v)=false):=lz hk hv
 have HV:Hid (v.kind=3/\0<=v.n/\v.n<h.objs.length):=⟨hk,hv,hn⟩
 have HZ:=ab hz
 have HH:=ab H
 have HL:=ab (And.intro hl ho)
 have HR:=ab (H.rd F hl)
 obtain ⟨L0,L1⟩:=qA w #[int i64 (im v).kind,int i64 (im v).n] #[int i64 0,int i64 0] 100 100
 have oZ:=ab L0
 have HB:Hid (Bl w ((w.alloc (dL (im v))).alloc eT)):=((Bl.refl w).alloc _).alloc _
 obtain ⟨E,hE⟩:∃E,bM h=E:=⟨_,rfl⟩
 have HE:=ab hE
 rw [hE]
 have HX:Hid (∃ch,E=.panicked ch):=by
  rw [<-hE];unfold bM;split<;>exact ⟨_,rfl⟩
 clear hk hv hn hz L0 L1 H F hl ho hE
 obtain ⟨ch,rfl⟩:=HX.out
 go_enter Tryz.func186,Tryz.ntmps186
 go_wp2_with (first
  | (go_at_call 90;refine (bX (im v) _).mono ?_;rintro e w2 ⟨he,b2⟩;rw [HN.out] at he;subst he;have q0:=ai b2 oZ.out;have c0:=aK q0;have c1:=aI q0;replace b2:=ab b2;clear q0)
  | (go_at_call 154;refine (jk g h v cc _ (HR.out.bl (HB.out.trans b2.out)) HV.out.1 HV.out.2.1 HV.out.2.2).mono ?_;rintro e w3 ⟨he,b3⟩;rw [HZ.out] at he;subst he;replace b2:=ab (b2.out.trans b3))
  | (go_at_call 199;refine (gy s X wx w0 g h qs a c 3 _ (HH.out.bl (HB.out.trans b2.out)) HL.out.1 HL.out.2).mono ?_;rintro e w4 ⟨he,H4⟩;rw [HE.out] at he;subst he;replace H4:=ab H4))
 exact ⟨rfl,rfl,H4.out⟩
theorem wF (k op:Int) (a b:Va) (hk:k=1∨k=2) (w:World):Calls Tryz.prog (if k=1 then 246 else 245) #[int i64 op,int i64 a.n,int i64 b.n] w fun e w'=>e=.returned (.tuple #[int i64 (j7 k op a b),.bool (iM k op a b)])/\w'=w:=by
 unfold j7 iM
 rcases hk with rfl|rfl
 ·rw [if_pos rfl,if_pos rfl,if_pos rfl];exact HJ op a.n b.n w
 ·rw [if_neg (by decide),if_neg (by decide),if_neg (by decide)];exact vT op a.n b.n w
theorem yz (hb:Nat) (k op:Int) (a b:Va) (hk:k=1∨k=2) (hr:iM k op a b=true) (w:World) :
  Calls Tryz.prog 231 #[.pointer (some ⟨hb,0,none⟩),int i64 k,int i64 op,cn a,cn b] w fun e w'=>e=.returned (cn ⟨k,j7 k op a b⟩)/\Bl w w':=by
 obtain ⟨L0,L1,L2⟩:=dE w #[int i64 a.kind,int i64 a.n] #[int i64 b.kind,int i64 b.n] #[int i64 0,int i64 0] 100 100 100
 have c0:=aI L0
 have c1:=aI L1
 have c4:=aK L2
 have c5:=aI L2
 have fz:=ay L2
 have wq:=ab L2
 have HB:Hid (Bl w (((w.alloc (dL a)).alloc (dL b)).alloc eT)):=(((Bl.refl w).alloc _).alloc _).alloc _
 have HW:=ab (wF k op a b hk)
 have HR:=ab hr
 clear L0 L1 L2 hr
 rcases hk with rfl|rfl
 ·rw [if_pos rfl] at HW
  go_enter Tryz.func231,Tryz.ntmps231
  go_wp2_with (go_at_call 246;refine (HW.out _).mono ?_;rintro e w2 ⟨he,hw⟩;rw [HR.out] at he;subst he;rw [hw];clear hw w2)
  refine bodyPost_ret (results_cell_row rfl _ _ (w.heap.size+1+1) _ _ _ _ rfl (dE w _ _ _ _ _ _).2.2 Tryz.underlying100 rfl bK) rfl ?_
  exact ⟨rfl,(((Bl.refl w).alloc _).alloc _).alloc _⟩
 ·rw [if_neg (by decide)] at HW
  go_enter Tryz.func231,Tryz.ntmps231
  go_wp2_with (go_at_call 245;refine (HW.out _).mono ?_;rintro e w2 ⟨he,hw⟩;rw [HR.out] at he;subst he;rw [hw];clear hw w2)
  refine bodyPost_ret (results_cell_row rfl _ _ (w.heap.size+1+1) _ _ _ _ rfl (dE w _ _ _ _ _ _).2.2 Tryz.underlying100 rfl bK) rfl ?_
  exact ⟨rfl,(((Bl.refl w).alloc _).alloc _).alloc _⟩
theorem BL (s:Nat) (X:Nat->Prop) (wx w0:World) (g:Mg) (h:Hp) (qs:List Nat) (a:Mc) (c:aH) (k op:Int) (u v:Va) (hk:k=1∨k=2) (hr:iM k op u v=false) (w:World) (H:RX s X wx w0 g w h qs a c) (hl:h.objs.length<=100) (ho:h.over=false) :
  Calls Tryz.prog 231 #[.pointer (some ⟨g.hb,0,none⟩),int i64 k,int i64 op,cn u,cn v] w fun e w'=>e=bM h/\RX s X wx w0 g w' (h.raise 2) qs a c:=by
 obtain ⟨L0,L1,L2⟩:=dE w #[int i64 u.kind,int i64 u.n] #[int i64 v.kind,int i64 v.n] #[int i64 0,int i64 0] 100 100 100
 have c0:=aI L0
 have c1:=aI L1
 have HB:Hid (Bl w (((w.alloc (dL u)).alloc (dL v)).alloc eT)):=(((Bl.refl w).alloc _).alloc _).alloc _
 have HW:=ab (wF k op u v hk)
 have HR:=ab hr
 have HH:=ab H
 have HL:=ab (And.intro hl ho)
 obtain ⟨E,hE⟩:∃E,bM h=E:=⟨_,rfl⟩
 have HE:=ab hE
 rw [hE]
 have HX:Hid (∃ch,E=.panicked ch):=by
  rw [<-hE];unfold bM;split<;>exact ⟨_,rfl⟩
 clear L0 L1 L2 hr H hl ho hE
 obtain ⟨ch,rfl⟩:=HX.out
 rcases hk with rfl|rfl
 ·rw [if_pos rfl] at HW
  go_enter Tryz.func231,Tryz.ntmps231
  go_wp2_with (first
   | (go_at_call 246;refine (HW.out _).mono ?_;rintro e w2 ⟨he,hw⟩;rw [HR.out] at he;subst he;rw [hw];clear hw w2)
   | (go_at_call 199;refine (gy s X wx w0 g h qs a c 2 _ (HH.out.bl HB.out) HL.out.1 HL.out.2).mono ?_;rintro e w4 ⟨he,H4⟩;rw [HE.out] at he;subst he;replace H4:=ab H4))
  exact ⟨rfl,rfl,H4.out⟩
 ·rw [if_neg (by decide)] at HW
  go_enter Tryz.func231,Tryz.ntmps231
  go_wp2_with (first
   | (go_at_call 245;refine (HW.out _).mono ?_;rintro e w2 ⟨he,hw⟩;rw [HR.out] at he;subst he;rw [hw];clear hw w2)
   | (go_at_call 199;refine (gy s X wx w0 g h qs a c 2 _ (HH.out.bl HB.out) HL.out.1 HL.out.2).mono ?_;rintro e w4 ⟨he,H4⟩;rw [HE.out] at he;subst he;replace H4:=ab H4))
  exact ⟨rfl,rfl,H4.out⟩
theorem dt {P:Program} {fn:Func} {p q:Tmp} {ty:TypeId} (h:fn.results=#[.cell p ty,.tmp q]) (tmps:Array Value) (w:World) (b:Nat) (t:TypeId) (cs:Array Value) (v:Value) (fr:Nat×Nat) (d:TypeDesc) (hp:tmps.getD p undef=.pointer (some ⟨b,0,none⟩)) (hq:tmps.getD q undef=v) (hb:w.heap[b]?=some (.cells cs t fr)) (hu:P.underlying ty=some d) (hd:(match d with | .struct _ | .array _ _=>true|_=>false)=true) (hi:(P.info? ty).map (·.size)=some cs.size) :
  (results fn tmps).run P w=.ok (.tuple #[.agg cs,v]) w:=by
 have BF:tmps[p]?.getD undef=.pointer (some ⟨b,0,none⟩):=by simpa using hp
 have NG:tmps[q]?.getD undef=v:=by simpa using hq
 simp [results,h,BF,NG,asAddr,run_loadVar_row w b t ty cs fr d hb hu hd hi]
theorem zV:(Tryz.prog.info? 108).map (·.size)=some 4:=by kernel_rfl
abbrev zW (x:Hd):Array Value:=#[int i64 x.fr,int i64 x.til,int i64 x.pc,int i64 x.cls]
def Qg (h:Hp) (pc:Int) (l:List Hd) (w:World) (e:Ending) (w':World):Prop :=
 Bl w w'/\∃x:Hd,(0<=h.caughtL pc l/\x.pc=h.caughtL pc l/\e=.returned (.tuple #[.agg (zW x),.bool true]))∨(h.caughtL pc l<0/\e=.returned (.tuple #[.agg (zW x),.bool false]))
theorem iv {u0 u1 u2 u3:Value} {t:TypeId} (h:w.heap[b]?=some (.cells #[u0,u1,u2,u3] t (0,0))) (v0 v1 v2 v3:Value):((((w.setCell ⟨b,0,none⟩ v0).setCell ⟨b,1,none⟩ v1).setCell ⟨b,2,none⟩ v2).setCell ⟨b,3,none⟩ v3).heap[b]?=some (.cells #[v0,v1,v2,v3] t (0,0)):=by
 rw [ax (ax (ax (ax h _) _) _)];rfl
theorem jO {v:World} (h:Bl w v) (hb:w.heap.size<=b) (y0 y1 y2 y3:Value):Bl w ((((v.setCell ⟨b,0,none⟩ y0).setCell ⟨b,1,none⟩ y1).setCell ⟨b,2,none⟩ y2).setCell ⟨b,3,none⟩ y3) :=
 (((h.setCell (p:=⟨b,0,none⟩) hb _).setCell (p:=⟨b,1,none⟩) hb _).setCell (p:=⟨b,2,none⟩) hb _).setCell (p:=⟨b,3,none⟩) hb _
abbrev yA:Obj:=.cells #[int i64 0,int i64 0,int i64 0,int i64 0] 108
theorem lC (g:Mg) (h:Hp) (v:Va) (l:List Hd) (A:Option Addr) (cap:Nat) (pc:Int) (w:World) (R:oX w g h) (hA:kQ w A l) (hv:v.kind=3) (h0:0<=v.n) (hn:v.n<h.objs.length) (ht:h.thrown=v.n) (hok:∀q,q<l.length->0<=(nth eD l q).fr/\(nth eD l q).til<=1000/\0<=(nth eD l q).til/\0<=(nth eD l q).pc) (oV:0<=pc/\pc<=1000) :
  Calls Tryz.prog 96 #[.pointer (some ⟨g.hb,0,none⟩),.slice A l.length cap,int i64 pc,cn (im v)] w fun e w'=>Qg h pc l w e w':=by
 have HR:=ab R
 have HA:=ab hA
 have HV:Hid (v.kind=3/\0<=v.n/\v.n<h.objs.length/\h.thrown=v.n):=⟨hv,h0,hn,ht⟩
 have Dx:=ab hok
 have Qe:=hA.1
 unfold maxLen at Qe
 have cE:Hid (Bl w ((w.alloc (dL (im v))).alloc yA)):=((Bl.refl w).alloc _).alloc _
 obtain ⟨L0,L1⟩:=bD w #[int i64 (im v).kind,int i64 (im v).n] #[int i64 0,int i64 0,int i64 0,int i64 0] 100 108
 have HL:Hid (((w.alloc (dL (im v))).alloc yA).heap[w.heap.size]?=some (.cells #[int i64 (im v).kind,int i64 (im v).n] 100 (0,0))/\((w.alloc (dL (im v))).alloc yA).heap[w.heap.size+1]?=some (.cells #[int i64 0,int i64 0,int i64 0,int i64 0] 108 (0,0))):=⟨L0,L1⟩
 clear R hA hv h0 hn ht hok L0 L1
 go_enter Tryz.func96,Tryz.ntmps96
 go_wp2
 go_loopw [14] (fun i wr=>∃q:Nat,q<=l.length/\i=int i64 q/\Hid (h.caughtL pc l=h.caughtL pc (l.drop q))/\Hid (Bl w wr)/\Hid (wr.heap[w.heap.size]?=some (.cells #[int i64 (im v).kind,int i64 (im v).n] 100 (0,0))/\wr.heap[w.heap.size+1]?=some (.cells #[int i64 0,int i64 0,int i64 0,int i64 0] 108 (0,0)))) (fun i _=>l.length-(intOf i).toNat)
 case atStart=>exact ⟨0,Nat.zero_le _,rfl,(show h.caughtL pc l=h.caughtL pc (l.drop 0) from rfl),cE.out,HL.out⟩
 case round =>
  clear HL cE
  obtain ⟨q,hq,rfl,hc,hg,HL⟩:=hrel
  by_cases eR:q<l.length
  ·rcases (HA.out.bl hg.out).2 with z0|⟨b,off,rfl,hcell⟩
   ·omega
   obtain ⟨x0,x1,x2,x3,-⟩:=hcell q eR
   obtain ⟨o1,o2,o3,o4⟩:=Dx.out q eR
   have TB:Hid (h.fits (nth eD l q) pc=false->h.caughtL pc (l.drop q)=h.caughtL pc (l.drop (q+1))):=fun e=>oP eR e
   have Vx:Hid (h.fits (nth eD l q) pc=true->h.caughtL pc (l.drop q)=(nth eD l q).pc):=fun e=>pU eR e
   generalize hX:nth eD l q=x at *
   have HB:Hid (∀w',Bl wr w'->Calls Tryz.prog 154 #[.pointer (some ⟨g.hb,0,none⟩),cn (im v),int i64 x.cls] w' fun e w2=>e=.returned (.bool (gH h.file.classes (h.obj v.n).cls x.cls))/\Bl w' w2):=fun w' hb=>by
    have:=qm g h v x.cls w' ((HR.out.bl hg.out).bl hb) HV.out.1 (by have:=HV.out.2.1;omega) HV.out.2.2.1
    rwa [decide_eq_true HV.out.2.1,Bool.true_and] at this
   have KF:Hid (h.fits x pc=(decide (x.fr<=pc/\pc<=x.til-1)&&gH h.file.classes (h.obj v.n).cls x.cls)):=by
    show h.fits x pc=_
    unfold Hp.fits
    rw [HV.out.2.2.2,Bool.eq_iff_iff]
    simp only [Bool.and_eq_true,decide_eq_true_eq]
    constructor
    ·rintro ⟨a,b,c⟩;exact ⟨by omega,c⟩
    ·rintro ⟨a,c⟩;exact ⟨by omega,by omega,c⟩
   have k0:=aK HL.out.1
   have k1:=aI HL.out.1
   have hlt:=af HL.out.2
   clear hcell hX
   have K0:∀o,(wr.alloc o).cell? ⟨w.heap.size,0,none⟩=some (int i64 (im v).kind):=fun o=>((Bl.refl wr).alloc o).cell k0
   have K1:∀o,(wr.alloc o).cell? ⟨w.heap.size,1,none⟩=some (int i64 (im v).n):=fun o=>((Bl.refl wr).alloc o).cell k1
   obtain ⟨T,hT⟩:∃T,decide (x.fr<=pc/\pc<=x.til-1)=T:=⟨_,rfl⟩
   obtain ⟨U,hU⟩:∃U,gH h.file.classes (h.obj v.n).cls x.cls=U:=⟨_,rfl⟩
   have HT:=ab hT
   have HU:=ab hU
   rw [hT,hU] at KF
   have bn:=aD wr #[int i64 x.fr,int i64 x.til,int i64 x.pc,int i64 x.cls] 108
   have Ow:=ab bn
   clear hT hU bn
   cases T with
   | false =>
    have Rg:=ab (TB.out (KF.out.trans rfl))
    go_wp2_with (go_at_call 35;refine (bj _ _ _ _).mono ?_;rintro e w0 ⟨he,mj⟩;rw [HT.out] at he;subst he;rw [mj];clear mj w0)
    go_roundw
    case rel=>exact ⟨q+1,by omega,by go_num,hc.out.trans Rg.out,hg.out.alloc _,ai ((Bl.refl wr).alloc _) HL.out.1,ai ((Bl.refl wr).alloc _) HL.out.2⟩
    case measure=>simp [intOf];omega
   | true =>
    cases U with
    | false =>
     have Rg:=ab (TB.out (KF.out.trans rfl))
     go_wp2_with (first
      | (go_at_call 35;refine (bj _ _ _ _).mono ?_;rintro e w0 ⟨he,mj⟩;rw [HT.out] at he;subst he;rw [mj];clear mj w0)
      | (go_at_call 154;refine (HB.out _ ((Bl.refl wr).alloc _)).mono ?_;rintro e w2 ⟨he,b2⟩;rw [HU.out] at he;subst he;replace b2:=ab b2))
     go_roundw
     case rel=>exact ⟨q+1,by omega,by go_num,hc.out.trans Rg.out,(hg.out.alloc _).trans b2.out,ai (((Bl.refl wr).alloc _).trans b2.out) HL.out.1,ai (((Bl.refl wr).alloc _).trans b2.out) HL.out.2⟩
     case measure=>simp [intOf];omega
    | true =>
     have Oy:=ab (hc.out.trans (Vx.out (KF.out.trans rfl)))
     go_wp2_with (first
      | (go_at_call 35;refine (bj _ _ _ _).mono ?_;rintro e w0 ⟨he,mj⟩;rw [HT.out] at he;subst he;rw [mj];clear mj w0)
      | (go_at_call 154;refine (HB.out _ ((Bl.refl wr).alloc _)).mono ?_;rintro e w2 ⟨he,b2⟩;rw [HU.out] at he;subst he;have q2:=ai (((Bl.refl wr).alloc _).trans b2) HL.out.2;have fz:=ay q2;have y0:w2.cell? ⟨w.heap.size+1,0,none⟩=some (int i64 0):=(aa q2).trans rfl;have y1:w2.cell? ⟨w.heap.size+1,1,none⟩=some (int i64 0):=(aa q2).trans rfl;have y2:w2.cell? ⟨w.heap.size+1,2,none⟩=some (int i64 0):=(aa q2).trans rfl;have y3:w2.cell? ⟨w.heap.size+1,3,none⟩=some (int i64 0):=(aa q2).trans rfl;have q5:=ai b2 Ow.out;have p0:w2.cell? ⟨wr.heap.size,0,none⟩=some (int i64 x.fr):=(aa q5).trans rfl;have p1:w2.cell? ⟨wr.heap.size,1,none⟩=some (int i64 x.til):=(aa q5).trans rfl;have p2:w2.cell? ⟨wr.heap.size,2,none⟩=some (int i64 x.pc):=(aa q5).trans rfl;have p3:w2.cell? ⟨wr.heap.size,3,none⟩=some (int i64 x.cls):=(aa q5).trans rfl;replace q2:=ab q2;replace q5:=ab q5;replace b2:=ab b2))
     refine bodyPost_ret (dt rfl _ _ (w.heap.size+1) _ _ _ _ _ rfl rfl (iv q2.out _ _ _ _) Tryz.underlying108 rfl zV) rfl ?_
     exact ⟨jO ((hg.out.alloc _).trans b2.out) (Nat.le_succ _) _ _ _ _,x,Or.inl ⟨by rw [Oy.out];exact o4,Oy.out.symm,rfl⟩⟩
  ·obtain rfl:q=l.length:=by omega
   have q2:=HL.out.2
   have fz:=ay q2
   have y0:wr.cell? ⟨w.heap.size+1,0,none⟩=some (int i64 0):=(aa q2).trans rfl
   have y1:wr.cell? ⟨w.heap.size+1,1,none⟩=some (int i64 0):=(aa q2).trans rfl
   have y2:wr.cell? ⟨w.heap.size+1,2,none⟩=some (int i64 0):=(aa q2).trans rfl
   have y3:wr.cell? ⟨w.heap.size+1,3,none⟩=some (int i64 0):=(aa q2).trans rfl
   replace q2:=ab q2
   go_wp2
   refine bodyPost_ret (dt rfl _ _ (w.heap.size+1) _ _ _ _ _ rfl rfl (iv q2.out _ _ _ _) Tryz.underlying108 rfl zV) rfl ?_
   have Nx:=hc.out
   rw [List.drop_length] at Nx
   exact ⟨jO hg.out (Nat.le_succ _) _ _ _ _,eD,Or.inr ⟨by rw [Nx];show (-1:Int)<0;decide,rfl⟩⟩
theorem qC (p q:Addr) (w:World) :
  CallsD Tryz.prog 155 #[.pointer (some p),.pointer (some q)] .returning w fun e u' w'=>e=.returned (.tuple #[])/\u'=.returning/\w'=w:=by
 refine callsD_of_wpS Tryz.func155 rfl fun c₀ cs hu=>?_
 apply wpS_seq
 apply wpS_region
 simp [wpOpsS,go_sem,recoverD,hu,Tryz.ntmps155,Exit.thenS]
 refine wpS_of_wp ?_
 go_wp2
 cases c₀
 simp_all [bodyPostS,results,Tryz.results155]
theorem wG (x:Value) (w:World):(Instr.typeAssert (.iface 102 x) 20 102 true).run Tryz.prog w=.ok (.tuple #[x,.bool true]) w:=by
 simp [Instr.typeAssert,run_underlying Tryz.underlying102]
theorem qD (p q:Nat) (how k n:Int) (a0 a1 a2 b0:Value) (KS:List PanicEntry) (w:World) (h0:w.cell? ⟨p,0,none⟩=some a0) (h1:w.cell? ⟨p,1,none⟩=some a1) (h2:w.cell? ⟨p,2,none⟩=some a2) (h3:w.cell? ⟨q,0,none⟩=some b0) (f0:∀i,w.frozen? ⟨p,i,none⟩=false) (f1:w.frozen? ⟨q,0,none⟩=false) (hne:p≠q) :
  CallsD Tryz.prog 155 #[.pointer (some ⟨p,0,none⟩),.pointer (some ⟨q,0,none⟩)] (.panicking ({ v:=.iface 102 (.agg #[int i64 how,int i64 k,int i64 n]),recovered:=false }::KS)) w fun e u' w' =>
   e=.returned (.tuple #[])/\u'=.panicking ({ v:=.iface 102 (.agg #[int i64 how,int i64 k,int i64 n]),recovered:=true }::KS)/\w'=((((w.setCell ⟨p,0,none⟩ (int i64 how)).setCell ⟨p,1,none⟩ (int i64 k)).setCell ⟨p,2,none⟩ (int i64 n)).setCell ⟨q,0,none⟩ (.bool true)).alloc (.cells #[int i64 how,int i64 k,int i64 n] 102):=by
 refine callsD_of_wpS Tryz.func155 rfl fun c₀ cs hu=>?_
 apply wpS_seq
 apply wpS_region
 simp [wpOpsS,go_sem,recoverD,hu,Tryz.ntmps155,Exit.thenS]
 refine wpS_of_wp ?_
 have he:(#[Value.pointer (some ⟨p,0,none⟩),Value.pointer (some ⟨q,0,none⟩)]++(Array.replicate 10 undef).setIfInBounds 3 (.iface 102 (.agg #[int i64 how,int i64 k,int i64 n])))=#[.pointer (some ⟨p,0,none⟩),.pointer (some ⟨q,0,none⟩),undef,undef,undef,.iface 102 (.agg #[int i64 how,int i64 k,int i64 n]),undef,undef,undef,undef,undef,undef]:=rfl
 rw [he]
 clear he
 have Rh:=wG (.agg #[int i64 how,int i64 k,int i64 n])
 have hp:=bC h0
 have hq:=bC h3
 go_wp2
 simp [bodyPostS,results,Tryz.results155]
abbrev dD:Obj:=.cells #[int i64 0,int i64 0,int i64 0] 102
abbrev dv:Obj:=.cells #[.bool false] 4
theorem tv (x:Value) (how k n:Int) (S:World->Prop) (w:World) (hc:Calls Tryz.prog 105 #[x] ((w.alloc dD).alloc dv) fun e w'=>e=aV how k n/\w'.heap[w.heap.size]?=some dD/\w'.heap[w.heap.size+1]?=some dv/\S w') :
  Calls Tryz.prog 104 #[.func (.func 105) #[x] #[]] w fun e w'=>e=.returned (.tuple #[.agg #[int i64 how,int i64 k,int i64 n],.bool true])/\∃w1,S w1/\w'=((((w1.setCell ⟨w.heap.size,0,none⟩ (int i64 how)).setCell ⟨w.heap.size,1,none⟩ (int i64 k)).setCell ⟨w.heap.size,2,none⟩ (int i64 n)).setCell ⟨w.heap.size+1,0,none⟩ (.bool true)).alloc (.cells #[int i64 how,int i64 k,int i64 n] 102):=by
 have KT:∀(fn:Fn) (first cap:Array Value) (w:World),(Instr.makeFunc fn first cap).run Tryz.prog w=.ok (.func fn first cap) w:=fun _ _ _ _=>rfl
 have HC:Hid (_):=hc
 clear hc
 go_enter_defers Tryz.func104,Tryz.ntmps104
 go_wp2_with (go_at_call 105;refine Calls.mono HC.out ?_;rintro e w1 ⟨rfl,b1,b2,s1⟩)
 have c0:w1.cell? ⟨w.heap.size,0,none⟩=some (int i64 0):=by simp [World.cell?,b1]
 have c1:w1.cell? ⟨w.heap.size,1,none⟩=some (int i64 0):=by simp [World.cell?,b1]
 have c2:w1.cell? ⟨w.heap.size,2,none⟩=some (int i64 0):=by simp [World.cell?,b1]
 have c3:w1.cell? ⟨w.heap.size+1,0,none⟩=some (.bool false):=by simp [World.cell?,b2]
 refine leaves_cons (f:=155) (args:=#[.pointer (some ⟨w.heap.size,0,none⟩),.pointer (some ⟨w.heap.size+1,0,none⟩)]) (by simp) (by simp [go_sem]) ?_
 refine (qD w.heap.size (w.heap.size+1) how k n _ _ _ _ [] w1 c0 c1 c2 c3 (fun i=>by simp [World.frozen?,b1]) (by simp [World.frozen?,b2]) (by omega)).mono ?_
 rintro e u' w'' ⟨rfl,rfl,rfl⟩
 obtain ⟨WF,tw⟩:∃WF,WF=((((w1.setCell ⟨w.heap.size,0,none⟩ (int i64 how)).setCell ⟨w.heap.size,1,none⟩ (int i64 k)).setCell ⟨w.heap.size,2,none⟩ (int i64 n)).setCell ⟨w.heap.size+1,0,none⟩ (.bool true)).alloc (.cells #[int i64 how,int i64 k,int i64 n] 102):=⟨_,rfl⟩
 have yB:WF.heap[w.heap.size]?=some (.cells #[int i64 how,int i64 k,int i64 n] 102 (0,0)):=by
  have h1:((((w1.setCell ⟨w.heap.size,0,none⟩ (int i64 how)).setCell ⟨w.heap.size,1,none⟩ (int i64 k)).setCell ⟨w.heap.size,2,none⟩ (int i64 n)).setCell ⟨w.heap.size+1,0,none⟩ (.bool true)).heap[w.heap.size]?=some (.cells #[int i64 how,int i64 k,int i64 n] 102 (0,0)):=by
   rw [aA (by omega),ax (ax (ax b1 _) _)];rfl
  rw [tw,Below.heap_alloc _ _ _ (af h1)];exact h1
 have Mh:WF.heap[w.heap.size+1]?=some (.cells #[.bool true] 4 (0,0)):=by
  have h1:((((w1.setCell ⟨w.heap.size,0,none⟩ (int i64 how)).setCell ⟨w.heap.size,1,none⟩ (int i64 k)).setCell ⟨w.heap.size,2,none⟩ (int i64 n)).setCell ⟨w.heap.size+1,0,none⟩ (.bool true)).heap[w.heap.size+1]?=some (.cells #[.bool true] 4 (0,0)):=by
   have h2:(((w1.setCell ⟨w.heap.size,0,none⟩ (int i64 how)).setCell ⟨w.heap.size,1,none⟩ (int i64 k)).setCell ⟨w.heap.size,2,none⟩ (int i64 n)).heap[w.heap.size+1]?=some dv:=by
    rw [aA (by omega),aA (by omega),aA (by omega)];exact b2
   rw [ax h2];rfl
  rw [tw,Below.heap_alloc _ _ _ (af h1)];exact h1
 have d0:WF.cell? ⟨w.heap.size,0,none⟩=some (int i64 how):=by rw [aa yB];rfl
 have d1:WF.cell? ⟨w.heap.size,1,none⟩=some (int i64 k):=by rw [aa yB];rfl
 have d2:WF.cell? ⟨w.heap.size,2,none⟩=some (int i64 n):=by rw [aa yB];rfl
 have d3:WF.cell? ⟨w.heap.size+1,0,none⟩=some (.bool true):=by rw [aa Mh];rfl
 rw [<-tw]
 have hex:∃w1,S w1/\WF=((((w1.setCell ⟨w.heap.size,0,none⟩ (int i64 how)).setCell ⟨w.heap.size,1,none⟩ (int i64 k)).setCell ⟨w.heap.size,2,none⟩ (int i64 n)).setCell ⟨w.heap.size+1,0,none⟩ (.bool true)).alloc (.cells #[int i64 how,int i64 k,int i64 n] 102):=⟨w1,s1,tw⟩
 simp [Leaves,settle,results,Tryz.results104,go_sem,d0,d1,d2,d3]
 exact hex
theorem tx (x:Value) (S:World->Prop) (w:World) (hc:Calls Tryz.prog 105 #[x] ((w.alloc dD).alloc dv) fun e w'=>e=.returned (.tuple #[])/\w'.heap[w.heap.size]?=some dD/\w'.heap[w.heap.size+1]?=some dv/\S w') :
  Calls Tryz.prog 104 #[.func (.func 105) #[x] #[]] w fun e w'=>e=.returned (.tuple #[.agg #[int i64 0,int i64 0,int i64 0],.bool false])/\∃w1,S w1/\w'=(((w1.setCell ⟨w.heap.size,0,none⟩ (int i64 0)).setCell ⟨w.heap.size,1,none⟩ (int i64 0)).setCell ⟨w.heap.size,2,none⟩ (int i64 0)).setCell ⟨w.heap.size+1,0,none⟩ (.bool false):=by
 have KT:∀(fn:Fn) (first cap:Array Value) (w:World),(Instr.makeFunc fn first cap).run Tryz.prog w=.ok (.func fn first cap) w:=fun _ _ _ _=>rfl
 have HC:Hid (_):=hc
 clear hc
 go_enter_defers Tryz.func104,Tryz.ntmps104
 go_wp2_with (go_at_call 105;refine Calls.mono HC.out ?_;rintro e w1 ⟨rfl,b1,b2,s1⟩;have c0:w1.cell? ⟨w.heap.size,0,none⟩=some (int i64 0):=(by simp [World.cell?,b1]);have c1:w1.cell? ⟨w.heap.size,1,none⟩=some (int i64 0):=(by simp [World.cell?,b1]);have c2:w1.cell? ⟨w.heap.size,2,none⟩=some (int i64 0):=(by simp [World.cell?,b1]);have c3:w1.cell? ⟨w.heap.size+1,0,none⟩=some (.bool false):=(by simp [World.cell?,b2]);have f0:∀i,w1.frozen? ⟨w.heap.size,i,none⟩=false:=(fun i=>by simp [World.frozen?,b1]);have f1:w1.frozen? ⟨w.heap.size+1,0,none⟩=false:=(by simp [World.frozen?,b2]))
 refine leaves_cons (f:=155) (args:=#[.pointer (some ⟨w.heap.size,0,none⟩),.pointer (some ⟨w.heap.size+1,0,none⟩)]) (by simp) (by simp [go_sem]) ?_
 refine (qC ⟨w.heap.size,0,none⟩ ⟨w.heap.size+1,0,none⟩ _).mono ?_
 rintro e u' w'' ⟨rfl,rfl,rfl⟩
 obtain ⟨WF,tw⟩:∃WF,WF=(((w1.setCell ⟨w.heap.size,0,none⟩ (int i64 0)).setCell ⟨w.heap.size,1,none⟩ (int i64 0)).setCell ⟨w.heap.size,2,none⟩ (int i64 0)).setCell ⟨w.heap.size+1,0,none⟩ (.bool false):=⟨_,rfl⟩
 have yB:WF.heap[w.heap.size]?=some dD:=by
  rw [tw,aA (by omega),ax (ax (ax b1 _) _)];rfl
 have Mh:WF.heap[w.heap.size+1]?=some dv:=by
  have h2:(((w1.setCell ⟨w.heap.size,0,none⟩ (int i64 0)).setCell ⟨w.heap.size,1,none⟩ (int i64 0)).setCell ⟨w.heap.size,2,none⟩ (int i64 0)).heap[w.heap.size+1]?=some dv:=by
   rw [aA (by omega),aA (by omega),aA (by omega)];exact b2
  rw [tw,ax h2];rfl
 have d0:WF.cell? ⟨w.heap.size,0,none⟩=some (int i64 0):=by rw [aa yB];rfl
 have d1:WF.cell? ⟨w.heap.size,1,none⟩=some (int i64 0):=by rw [aa yB];rfl
 have d2:WF.cell? ⟨w.heap.size,2,none⟩=some (int i64 0):=by rw [aa yB];rfl
 have d3:WF.cell? ⟨w.heap.size+1,0,none⟩=some (.bool false):=by rw [aa Mh];rfl
 rw [<-tw]
 have hex:∃w1,S w1/\WF=(((w1.setCell ⟨w.heap.size,0,none⟩ (int i64 0)).setCell ⟨w.heap.size,1,none⟩ (int i64 0)).setCell ⟨w.heap.size,2,none⟩ (int i64 0)).setCell ⟨w.heap.size+1,0,none⟩ (.bool false):=⟨w1,s1,tw⟩
 simp [Leaves,settle,results,Tryz.results104,go_sem,d0,d1,d2,d3]
 exact hex
theorem rN (x y:Value) (how k n:Int) (S:World->Prop) (w:World) (hc:Calls Tryz.prog 106 #[x,y] ((w.alloc dD).alloc dv) fun e w'=>e=aV how k n/\w'.heap[w.heap.size]?=some dD/\w'.heap[w.heap.size+1]?=some dv/\S w') :
  Calls Tryz.prog 104 #[.func (.func 106) #[] #[x,y]] w fun e w'=>e=.returned (.tuple #[.agg #[int i64 how,int i64 k,int i64 n],.bool true])/\∃w1,S w1/\w'=((((w1.setCell ⟨w.heap.size,0,none⟩ (int i64 how)).setCell ⟨w.heap.size,1,none⟩ (int i64 k)).setCell ⟨w.heap.size,2,none⟩ (int i64 n)).setCell ⟨w.heap.size+1,0,none⟩ (.bool true)).alloc (.cells #[int i64 how,int i64 k,int i64 n] 102):=by
 have KT:∀(fn:Fn) (first cap:Array Value) (w:World),(Instr.makeFunc fn first cap).run Tryz.prog w=.ok (.func fn first cap) w:=fun _ _ _ _=>rfl
 have HC:Hid (_):=hc
 clear hc
 go_enter_defers Tryz.func104,Tryz.ntmps104
 go_wp2_with (go_at_call 106;refine Calls.mono HC.out ?_;rintro e w1 ⟨rfl,b1,b2,s1⟩)
 have c0:w1.cell? ⟨w.heap.size,0,none⟩=some (int i64 0):=by simp [World.cell?,b1]
 have c1:w1.cell? ⟨w.heap.size,1,none⟩=some (int i64 0):=by simp [World.cell?,b1]
 have c2:w1.cell? ⟨w.heap.size,2,none⟩=some (int i64 0):=by simp [World.cell?,b1]
 have c3:w1.cell? ⟨w.heap.size+1,0,none⟩=some (.bool false):=by simp [World.cell?,b2]
 refine leaves_cons (f:=155) (args:=#[.pointer (some ⟨w.heap.size,0,none⟩),.pointer (some ⟨w.heap.size+1,0,none⟩)]) (by simp) (by simp [go_sem]) ?_
 refine (qD w.heap.size (w.heap.size+1) how k n _ _ _ _ [] w1 c0 c1 c2 c3 (fun i=>by simp [World.frozen?,b1]) (by simp [World.frozen?,b2]) (by omega)).mono ?_
 rintro e u' w'' ⟨rfl,rfl,rfl⟩
 obtain ⟨WF,tw⟩:∃WF,WF=((((w1.setCell ⟨w.heap.size,0,none⟩ (int i64 how)).setCell ⟨w.heap.size,1,none⟩ (int i64 k)).setCell ⟨w.heap.size,2,none⟩ (int i64 n)).setCell ⟨w.heap.size+1,0,none⟩ (.bool true)).alloc (.cells #[int i64 how,int i64 k,int i64 n] 102):=⟨_,rfl⟩
 have yB:WF.heap[w.heap.size]?=some (.cells #[int i64 how,int i64 k,int i64 n] 102 (0,0)):=by
  have h1:((((w1.setCell ⟨w.heap.size,0,none⟩ (int i64 how)).setCell ⟨w.heap.size,1,none⟩ (int i64 k)).setCell ⟨w.heap.size,2,none⟩ (int i64 n)).setCell ⟨w.heap.size+1,0,none⟩ (.bool true)).heap[w.heap.size]?=some (.cells #[int i64 how,int i64 k,int i64 n] 102 (0,0)):=by
   rw [aA (by omega),ax (ax (ax b1 _) _)];rfl
  rw [tw,Below.heap_alloc _ _ _ (af h1)];exact h1
 have Mh:WF.heap[w.heap.size+1]?=some (.cells #[.bool true] 4 (0,0)):=by
  have h1:((((w1.setCell ⟨w.heap.size,0,none⟩ (int i64 how)).setCell ⟨w.heap.size,1,none⟩ (int i64 k)).setCell ⟨w.heap.size,2,none⟩ (int i64 n)).setCell ⟨w.heap.size+1,0,none⟩ (.bool true)).heap[w.heap.size+1]?=some (.cells #[.bool true] 4 (0,0)):=by
   have h2:(((w1.setCell ⟨w.heap.size,0,none⟩ (int i64 how)).setCell ⟨w.heap.size,1,none⟩ (int i64 k)).setCell ⟨w.heap.size,2,none⟩ (int i64 n)).heap[w.heap.size+1]?=some dv:=by
    rw [aA (by omega),aA (by omega),aA (by omega)];exact b2
   rw [ax h2];rfl
  rw [tw,Below.heap_alloc _ _ _ (af h1)];exact h1
 have d0:WF.cell? ⟨w.heap.size,0,none⟩=some (int i64 how):=by rw [aa yB];rfl
 have d1:WF.cell? ⟨w.heap.size,1,none⟩=some (int i64 k):=by rw [aa yB];rfl
 have d2:WF.cell? ⟨w.heap.size,2,none⟩=some (int i64 n):=by rw [aa yB];rfl
 have d3:WF.cell? ⟨w.heap.size+1,0,none⟩=some (.bool true):=by rw [aa Mh];rfl
 rw [<-tw]
 have hex:∃w1,S w1/\WF=((((w1.setCell ⟨w.heap.size,0,none⟩ (int i64 how)).setCell ⟨w.heap.size,1,none⟩ (int i64 k)).setCell ⟨w.heap.size,2,none⟩ (int i64 n)).setCell ⟨w.heap.size+1,0,none⟩ (.bool true)).alloc (.cells #[int i64 how,int i64 k,int i64 n] 102):=⟨w1,s1,tw⟩
 simp [Leaves,settle,results,Tryz.results104,go_sem,d0,d1,d2,d3]
 exact hex
theorem rO (x y:Value) (S:World->Prop) (w:World) (hc:Calls Tryz.prog 106 #[x,y] ((w.alloc dD).alloc dv) fun e w'=>e=.returned (.tuple #[])/\w'.heap[w.heap.size]?=some dD/\w'.heap[w.heap.size+1]?=some dv/\S w') :
  Calls Tryz.prog 104 #[.func (.func 106) #[] #[x,y]] w fun e w'=>e=.returned (.tuple #[.agg #[int i64 0,int i64 0,int i64 0],.bool false])/\∃w1,S w1/\w'=(((w1.setCell ⟨w.heap.size,0,none⟩ (int i64 0)).setCell ⟨w.heap.size,1,none⟩ (int i64 0)).setCell ⟨w.heap.size,2,none⟩ (int i64 0)).setCell ⟨w.heap.size+1,0,none⟩ (.bool false):=by
 have KT:∀(fn:Fn) (first cap:Array Value) (w:World),(Instr.makeFunc fn first cap).run Tryz.prog w=.ok (.func fn first cap) w:=fun _ _ _ _=>rfl
 have HC:Hid (_):=hc
 clear hc
 go_enter_defers Tryz.func104,Tryz.ntmps104
 go_wp2_with (go_at_call 106;refine Calls.mono HC.out ?_;rintro e w1 ⟨rfl,b1,b2,s1⟩;have c0:w1.cell? ⟨w.heap.size,0,none⟩=some (int i64 0):=(by simp [World.cell?,b1]);have c1:w1.cell? ⟨w.heap.size,1,none⟩=some (int i64 0):=(by simp [World.cell?,b1]);have c2:w1.cell? ⟨w.heap.size,2,none⟩=some (int i64 0):=(by simp [World.cell?,b1]);have c3:w1.cell? ⟨w.heap.size+1,0,none⟩=some (.bool false):=(by simp [World.cell?,b2]);have f0:∀i,w1.frozen? ⟨w.heap.size,i,none⟩=false:=(fun i=>by simp [World.frozen?,b1]);have f1:w1.frozen? ⟨w.heap.size+1,0,none⟩=false:=(by simp [World.frozen?,b2]))
 refine leaves_cons (f:=155) (args:=#[.pointer (some ⟨w.heap.size,0,none⟩),.pointer (some ⟨w.heap.size+1,0,none⟩)]) (by simp) (by simp [go_sem]) ?_
 refine (qC ⟨w.heap.size,0,none⟩ ⟨w.heap.size+1,0,none⟩ _).mono ?_
 rintro e u' w'' ⟨rfl,rfl,rfl⟩
 obtain ⟨WF,tw⟩:∃WF,WF=(((w1.setCell ⟨w.heap.size,0,none⟩ (int i64 0)).setCell ⟨w.heap.size,1,none⟩ (int i64 0)).setCell ⟨w.heap.size,2,none⟩ (int i64 0)).setCell ⟨w.heap.size+1,0,none⟩ (.bool false):=⟨_,rfl⟩
 have yB:WF.heap[w.heap.size]?=some dD:=by
  rw [tw,aA (by omega),ax (ax (ax b1 _) _)];rfl
 have Mh:WF.heap[w.heap.size+1]?=some dv:=by
  have h2:(((w1.setCell ⟨w.heap.size,0,none⟩ (int i64 0)).setCell ⟨w.heap.size,1,none⟩ (int i64 0)).setCell ⟨w.heap.size,2,none⟩ (int i64 0)).heap[w.heap.size+1]?=some dv:=by
   rw [aA (by omega),aA (by omega),aA (by omega)];exact b2
  rw [tw,ax h2];rfl
 have d0:WF.cell? ⟨w.heap.size,0,none⟩=some (int i64 0):=by rw [aa yB];rfl
 have d1:WF.cell? ⟨w.heap.size,1,none⟩=some (int i64 0):=by rw [aa yB];rfl
 have d2:WF.cell? ⟨w.heap.size,2,none⟩=some (int i64 0):=by rw [aa yB];rfl
 have d3:WF.cell? ⟨w.heap.size+1,0,none⟩=some (.bool false):=by rw [aa Mh];rfl
 rw [<-tw]
 have hex:∃w1,S w1/\WF=(((w1.setCell ⟨w.heap.size,0,none⟩ (int i64 0)).setCell ⟨w.heap.size,1,none⟩ (int i64 0)).setCell ⟨w.heap.size,2,none⟩ (int i64 0)).setCell ⟨w.heap.size+1,0,none⟩ (.bool false):=⟨w1,s1,tw⟩
 simp [Leaves,settle,results,Tryz.results104,go_sem,d0,d1,d2,d3]
 exact hex
def kh (x:pB):Int×Int:=(x.cls,x.fld)
theorem qE {x:pB} (h:x∈iA cs c d):x.cls=d/\∃k:Nat,k<(nth cg cs d).fields.length/\x.fld=k:=by
 unfold iA at h
 split at h
 ·rw [List.mem_map] at h
  obtain ⟨k,hk,rfl⟩:=h
  exact ⟨rfl,k,by simpa using hk,rfl⟩
 ·simp at h
theorem tz (cs:List Cl) (c d:Nat):((iA cs c d).map kh).Nodup:=by
 unfold iA
 split
 ·rw [List.map_map]
  unfold List.Nodup
  rw [List.pairwise_map]
  refine List.Pairwise.imp ?_ (List.nodup_range (n:=(nth cg cs d).fields.length))
  intro a b Oz e
  simp [kh] at e
  exact Oz (by omega)
 ·simp
theorem qF (cs:List Cl) (c:Nat):∀l:List Nat,l.Nodup->((l.flatMap (iA cs c)).map kh).Nodup
 | [],_=>by simp
 | d::l,h=>by
  rw [List.nodup_cons] at h
  rw [List.flatMap_cons,List.map_append,List.nodup_append]
  refine ⟨tz cs c d,qF cs c l h.2,?_⟩
  intro a ha b hb e
  rw [List.mem_map] at ha hb
  obtain ⟨x,hx,rfl⟩:=ha
  obtain ⟨y,hy,rfl⟩:=hb
  rw [List.mem_flatMap] at hy
  obtain ⟨d',KM,hy⟩:=hy
  have h1:=(qE hx).1
  have h2:=(qE hy).1
  simp only [kh,Prod.mk.injEq] at e
  have:d=d':=by omega
  subst this
  exact h.1 KM
theorem rP (cs:List Cl) (c:Nat):((dA cs c).map kh).Nodup:=qF cs c _ List.nodup_range
theorem wH (hd:d<cs.length) (hb:fK cs c d=true) (hk:k<(nth cg cs d).fields.length):((d:Int),(k:Int))∈(dA cs c).map kh:=by
 rw [List.mem_map]
 refine ⟨⟨d,k,jc (nth cN (nth cg cs d).fields k)⟩,?_,rfl⟩
 unfold dA
 rw [List.mem_flatMap]
 refine ⟨d,by simpa using hd,?_⟩
 unfold iA
 rw [if_pos hb,List.mem_map]
 exact ⟨k,by simpa using hk,rfl⟩
section
variable {cs:List Cl} {l:List pB} {cl:Int}
theorem BM (hl:l.map kh=(dA cs cl.toNat).map kh) (hb:gH cs cl (c:Int)=true) (hk:k<(nth cg cs c).fields.length) :
  ∃j:Nat,j<l.length/\fI l c k=j/\(nth cH l j).cls=c/\(nth cH l j).fld=k:=by
 unfold gH at hb
 rw [Bool.and_eq_true] at hb
 have h1:=of_decide_eq_true hb.1
 have hm:=wH (cs:=cs) (c:=cl.toNat) (d:=c) (k:=k) (by omega) (by simpa using hb.2) hk
 rw [<-hl,List.mem_map] at hm
 obtain ⟨x,hx,G4⟩:=hm
 simp only [kh,Prod.mk.injEq] at G4
 unfold fI
 cases hf:l.findIdx? (fun x=>decide (x.cls=(c:Int)/\x.fld=(k:Int))) with
 | none =>
  rw [List.findIdx?_eq_none_iff] at hf
  have:=hf x hx
  simp [G4.1,G4.2] at this
 | some i =>
  rw [List.findIdx?_eq_some_iff_getElem] at hf
  obtain ⟨hi,hp,-⟩:=hf
  have BF:=of_decide_eq_true hp
  refine ⟨i,hi,rfl,?_,?_⟩
  ·rw [bU hi];exact BF.1
  ·rw [bU hi];exact BF.2
theorem Es (hl:l.map kh=(dA cs cl.toNat).map kh) {i:Nat} (hi:i<l.length) (hj:j<l.length) (h:kh (nth cH l i)=kh (nth cH l j)):i=j:=by
 have hn:=rP cs cl.toNat
 rw [<-hl] at hn
 rw [bU hi,bU hj] at h
 have Tp:i<(l.map kh).length:=by simpa using hi
 have hj':j<(l.map kh).length:=by simpa using hj
 have e:(l.map kh)[i]=(l.map kh)[j]:=by simpa using h
 exact (List.getElem_inj hn).mp e
end
theorem Et {l:List pB} (hj:j<l.length) (v:Va):(l.set j { nth cH l j with v:=v }).map kh=l.map kh:=by
 apply List.ext_getElem
 ·simp
 ·intro i h1 h2
  simp only [List.getElem_map,List.getElem_set]
  split
  ·rename_i e
   subst e
   rw [bU hj]
   rfl
  ·rfl
theorem zX {α:Type} {d:α} {l:List α} {x:α} (h:x∈l):∃i,i<l.length/\nth d l i=x:=by
 obtain ⟨i,hi,rfl⟩:=List.getElem_of_mem h
 exact ⟨i,hi,bU hi⟩
section
open Go.Maps (Keyed has)
theorem iu {A:Option Addr} (h:ct w A cs) {f:Nat} (hc:c<cs.length) (hf:f<(nth cg cs c).fields.length) :
  ∃b off F fo uc,A=some ⟨b,off,none⟩/\w.cell? ⟨b,off+c*2+1,none⟩=some (.slice (some ⟨F,fo,none⟩) (nth cg cs c).fields.length uc)/\cs.length<=maxLen/\(nth cg cs c).fields.length<=maxLen
   /\ w.cell? ⟨F,fo+f*2,none⟩=some (int i64 (nth cN (nth cg cs c).fields f).kind)/\w.cell? ⟨F,fo+f*2+1,none⟩=some (int i64 (nth cN (nth cg cs c).fields f).cls):=by
 rcases h.2 with h0|⟨b,off,rfl,hcell⟩
 ·omega
 obtain ⟨-,-,A',uc,jC,hty⟩:=hcell c hc
 rcases hty.2 with h0|⟨F,fo,rfl,htc⟩
 ·omega
 exact ⟨b,off,F,fo,uc,rfl,jC,h.1,hty.1,(htc f hf).1,(htc f hf).2.1⟩
theorem yC:(Tryz.prog.info? 265).map (·.size)=some 3:=by kernel_rfl
abbrev TC:Obj:=.cells #[int i64 0,int i64 0,int i64 0] 265
theorem BN {k n m k' n' m':Value} {t:TypeId} (q:w.heap[b]?=some (.cells #[k,n,m] t (0,0))):(((w.setCell ⟨b,0,none⟩ k').setCell ⟨b,1,none⟩ n').setCell ⟨b,2,none⟩ m').heap[b]?=some (.cells #[k',n',m'] t (0,0)):=by
 rw [ax (ax (ax q _) _) _];rfl
theorem lD (hb:Nat) (v:Va) (c k:Int) (hk:v.kind=3) (hv:0<=v.n) (w:World) :
  Calls Tryz.prog 229 #[.pointer (some ⟨hb,0,none⟩),cn (im v),int i64 c,int i64 k] w fun e w'=>e=.returned (jf (v.n+1) c k)/\Bl w w':=by
 have HN:Hid (vB (im v)=false):=lz hk hv
 have e:im v=⟨3,v.n+1⟩:=gp hk
 rw [e] at HN ⊢
 obtain ⟨L0,L1⟩:=bD w #[int i64 3,int i64 (v.n+1)] #[int i64 0,int i64 0,int i64 0] 100 265
 have oZ:=ab L0
 have gx:=ab L1
 have HB:Hid (Bl w ((w.alloc (dL ⟨3,v.n+1⟩)).alloc TC)):=((Bl.refl w).alloc _).alloc _
 clear hk hv e L0 L1
 go_enter Tryz.func229,Tryz.ntmps229
 go_wp2_with (go_at_call 90;refine (bX ⟨3,v.n+1⟩ _).mono ?_;rintro e w2 ⟨he,b2⟩;rw [HN.out] at he;subst he;have q0:=ai b2 oZ.out;have c1:=aI q0;have q1:=ai b2 gx.out;have d0:w2.cell? ⟨w.heap.size+1,0,none⟩=some (int i64 0):=(aa q1).trans rfl;have d1:w2.cell? ⟨w.heap.size+1,1,none⟩=some (int i64 0):=(aa q1).trans rfl;have d2:w2.cell? ⟨w.heap.size+1,2,none⟩=some (int i64 0):=(aa q1).trans rfl;have fz:=ay q1;replace b2:=ab b2;replace q1:=ab q1;clear q0)
 refine bodyPost_ret (results_cell_row rfl _ _ (w.heap.size+1) _ _ _ _ rfl (BN q1.out) Tryz.underlying265 rfl yC) rfl ?_
 exact ⟨rfl,Bl.setCell (Bl.setCell (Bl.setCell (HB.out.trans b2.out) (p:=⟨w.heap.size+1,0,none⟩) (Nat.le_succ _) _) (p:=⟨w.heap.size+1,1,none⟩) (Nat.le_succ _) _) (p:=⟨w.heap.size+1,2,none⟩) (Nat.le_succ _) _⟩
theorem ou (s:Nat) (X:Nat->Prop) (wx w0:World) (g:Mg) (h:Hp) (qs:List Nat) (a:Mc) (c:aH) (v:Va) (cc k:Int) (w:World) (H:RX s X wx w0 g w h qs a c) (hl:h.objs.length<=100) (ho:h.over=false) (hk:v.kind=3) (hv:v.n=-1) :
  Calls Tryz.prog 229 #[.pointer (some ⟨g.hb,0,none⟩),cn (im v),int i64 cc,int i64 k] w fun e w'=>e=bM h/\RX s X wx w0 g w' (h.raise 1) qs a c:=by
 have HN:Hid (vB (im v)=true):=l6 hk hv
 have e:im v=⟨3,0⟩:=by rw [gp hk,hv];rfl
 rw [e] at HN ⊢
 have HB:Hid (Bl w ((w.alloc (dL ⟨3,0⟩)).alloc TC)):=((Bl.refl w).alloc _).alloc _
 have HH:=ab H
 have HL:=ab (And.intro hl ho)
 obtain ⟨E,hE⟩:∃E,bM h=E:=⟨_,rfl⟩
 have HE:=ab hE
 rw [hE]
 have HX:Hid (∃ch,E=.panicked ch):=by
  rw [<-hE];unfold bM;split<;>exact ⟨_,rfl⟩
 clear hk hv e H hl ho hE
 obtain ⟨ch,rfl⟩:=HX.out
 go_enter Tryz.func229,Tryz.ntmps229
 go_wp2_with (first
  | (go_at_call 90;refine (bX ⟨3,0⟩ _).mono ?_;rintro e w2 ⟨he,b2⟩;rw [HN.out] at he;subst he;replace b2:=ab b2)
  | (go_at_call 199;refine (gy s X wx w0 g h qs a c 1 _ (HH.out.bl (HB.out.trans b2.out)) HL.out.1 HL.out.2).mono ?_;rintro e w3 ⟨he,H3⟩;rw [HE.out] at he;subst he;replace H3:=ab H3))
 exact ⟨rfl,rfl,H3.out⟩
theorem Ev:(Tryz.prog.info? 100).map (fun i=>(i.zero,i.size,i.bytes))=some (some (.agg #[int i64 0,int i64 0]),2,16):=by kernel_rfl
theorem IV (w:World):(zeroValue 100).run Tryz.prog w=.ok (cn ⟨0,0⟩) w:=by
 obtain ⟨i,hi,hz,-,-⟩:=info_parts Ev
 simp [zeroValue,hi,hz]
 rfl
theorem wI {mp:Nat} {D:DataW Nat} (h:w.ownsMap Tryz.prog 265 fk mp n D) {o c k:Int} (ho:cP o) (hc:cP c) (hk:cP k) (u:Va) (hu:has D (ju o c k)=true->∀z,D.atKey (ju o c k) z=KN u) :
  (Instr.lookup 169 (.map (some mp)) (jf o c k) true).run Tryz.prog w=.ok (.tuple #[cn (if has D (ju o c k)=true then u else ⟨0,0⟩),.bool (has D (ju o c k))]) w:=by
 obtain ⟨v,ps,h1,h2⟩:=h.look_ok j6 Tryz.underlying169 (IV w) (si ⟨0,0⟩) (lV ho hc hk)
 rw [h1]
 cases hh:has D (ju o c k) with
 | true =>
  rw [hu hh] at h2
  rw [if_pos rfl,ql h2]
 | false =>
  rw [Maps.atKey_of_not_has hh] at h2
  rw [if_neg (by decide),ql h2]
end
section
open Go.Maps (Keyed has)
theorem tA {l:List Cl} (h:eQ l=true) (hd:d<l.length):l.length<=12/\(nth cg l d).fields.length<=6/\∀t∈(nth cg l d).fields,fu l.length t=true:=by
 unfold eQ at h
 rw [Bool.and_eq_true,List.all_eq_true] at h
 have h1:=of_decide_eq_true h.1
 have h2:=h.2 d (by simpa using hd)
 unfold rH at h2
 rw [Bool.and_eq_true,List.all_eq_true] at h2
 have h3:=of_decide_eq_true h2.1
 exact ⟨h1.2.1,h3.2,h2.2⟩
theorem gP (cs:List Cl) (c k:Nat):dW cs (c:Int) (k:Int)=nth cN (nth cg cs c).fields k:=by unfold dW;rw [Int.toNat_natCast,Int.toNat_natCast]
theorem yD {l:List Cl} (h:eQ l=true) (hc:c<l.length) (hk:k<(nth cg l c).fields.length):1<=(dW l (c:Int) (k:Int)).kind/\(dW l (c:Int) (k:Int)).kind<=3:=by
 rw [gP]
 exact zH ((tA h hc).2.2 _ (bJ hk))
theorem RX.find {s:Nat} {X:Nat->Prop} {wx w0:World} {g:Mg} {qs:List Nat} {a:Mc} {c:aH} (H:RX s X wx w0 g w h qs a c) {cc:Nat} (ho:o<h.objs.length) (hb:gH h.file.classes (nth cB h.objs o).cls (cc:Int)=true) (hk:k<(nth cg h.file.classes cc).fields.length) :
  ∃j:Nat,j<(nth cB h.objs o).held.length/\fI (nth cB h.objs o).held cc k=j/\(nth cH (nth cB h.objs o).held j).cls=cc/\(nth cH (nth cB h.objs o).held j).fld=k/\(nth cH (nth cB h.objs o).held j).v.kind=(dW h.file.classes (cc:Int) (k:Int)).kind:=by
 obtain ⟨vc,vo,vx,vs,l,H⟩:=H
 obtain ⟨n,D,F⟩:=H.rh.fld
 obtain ⟨j,h1,h2,h3,h4⟩:=BM (F.ks o ho) hb hk
 refine ⟨j,h1,h2,h3,h4,?_⟩
 have:=F.kd o ho _ (bJ (d:=cH) h1)
 rw [h3,h4] at this
 exact this
end
section
open Go.Maps (Keyed has)
theorem jm (ho:o<h.objs.length):nth cB (h.setV o j v).objs o={ nth cB h.objs o with held:=(nth cB h.objs o).held.set j { nth cH (nth cB h.objs o).held j with v:=v } }:=eu ho
theorem iR {o':Nat} (hn:o≠o'):nth cB (h.setV o j v).objs o'=nth cB h.objs o':=dY hn
theorem mB.put {w':World} {mp:Nat} {D:DataW Nat} (F:mB 1 w mp h n D) {cc:Nat} (ho:o<h.objs.length) (hl:h.objs.length<=100) (hj:j<(nth cB h.objs o).held.length) (hc:(nth cH (nth cB h.objs o).held j).cls=(cc:Int)) (hk:(nth cH (nth cB h.objs o).held j).fld=(k:Int)) (ic:cP (cc:Int)) (ik:cP (k:Int)) (hv:v.kind=(dW h.file.classes cc k).kind) (hw:w'.ownsMap Tryz.prog 265 fk mp (n+1) (D.put (ju ((o:Int)+1) cc k) (KN (im v)))):mB 0 w' mp (h.setV o j v) (n+1) (D.put (ju ((o:Int)+1) cc k) (KN (im v))):=by
 have hm:=F.own.isMap
 have hlen:(h.setV o j v).objs.length=h.objs.length:=by simp [Hp.setV]
 have jC:(h.setV o j v).file=h.file:=rfl
 have io:∀o':Nat,o'<=100->cP ((o':Int)+1):=fun o' h'=>by unfold cP;omega
 have Ri:∀(o':Nat) (c' k':Int),o'<=100->cP c'->cP k'->¬(o'=o/\c'=cc/\k'=k)->ju ((o':Int)+1) c' k'≠ju ((o:Int)+1) cc k:=fun o' c' k' h1 h2 h3 hne e=>by
  obtain ⟨e1,e2,e3⟩:=DB (io o' h1) h2 h3 (io o (by omega)) ic ik e
  exact hne ⟨by omega,e2,e3⟩
 have TD:=F.ks o ho
 have KU:∀x∈((nth cB h.objs o).held.set j { nth cH (nth cB h.objs o).held j with v:=v }),(x.cls=(cc:Int)/\x.fld=(k:Int))->x.v=v:=by
  intro x hx G4
  obtain ⟨i,hi,rfl⟩:=zX (d:=cH) hx
  rw [List.length_set] at hi
  by_cases e:j=i
  ·subst e;rw [eu hj]
  ·exfalso
   rw [dY e] at G4
   exact e (Es TD hj hi (by simp only [kh];rw [hc,hk,G4.1,G4.2]))
 have hold:∀x∈((nth cB h.objs o).held.set j { nth cH (nth cB h.objs o).held j with v:=v }),¬(x.cls=(cc:Int)/\x.fld=(k:Int))->x∈(nth cB h.objs o).held:=by
  intro x hx G4
  obtain ⟨i,hi,rfl⟩:=zX (d:=cH) hx
  rw [List.length_set] at hi
  by_cases e:j=i
  ·subst e
   rw [eu hj] at G4
   exact absurd ⟨hc,hk⟩ G4
  ·rw [dY e];exact bJ hi
 refine ⟨hw,by have:=F.few;show ((n+1:Nat):Int)+((0:Nat):Int)<=h.sh.steps;omega,fun o' c' k' v' pT KV KW hx hh z=>?_,fun o' c' k' v' pT KV KW hx hh=>?_,fun o' c' k' pT IB KV KW=>?_,fun o' pT=>?_,fun o' pT x hx=>?_⟩
 ·rw [hlen] at pT
  by_cases e:o'=o/\c'=cc/\k'=k
  ·obtain ⟨rfl,rfl,rfl⟩:=e
   rw [jm ho] at hx
   obtain ⟨x,Bw,G5,IW,rfl⟩:=hx
   rw [KU x Bw ⟨G5,IW⟩]
   exact Maps.atKey_put_same hm (j6.key (lV (io _ (by omega)) ic ik)) _ _
  ·have hne:=Ri o' c' k' (by omega) KV KW e
   rw [Maps.has_put_other hne] at hh
   rw [Maps.atKey_put_other hne]
   refine F.hit o' c' k' v' pT KV KW ?_ hh z
   by_cases e1:o'=o
   ·subst e1
    rw [jm ho] at hx
    obtain ⟨x,Bw,G5,IW,OA⟩:=hx
    exact ⟨x,hold x Bw (fun q=>e ⟨rfl,by rw [<-G5];exact q.1,by rw [<-IW];exact q.2⟩),G5,IW,OA⟩
   ·rw [iR (fun q=>e1 q.symm)] at hx
    exact hx
 ·rw [hlen] at pT
  by_cases e:o'=o/\c'=cc/\k'=k
  ·obtain ⟨rfl,rfl,rfl⟩:=e
   rw [Maps.has_put_same hm (j6.key (lV (io _ (by omega)) ic ik))] at hh
   exact absurd hh (by decide)
  ·have hne:=Ri o' c' k' (by omega) KV KW e
   rw [Maps.has_put_other hne] at hh
   refine F.miss o' c' k' v' pT KV KW ?_ hh
   by_cases e1:o'=o
   ·subst e1
    rw [jm ho] at hx
    obtain ⟨x,Bw,G5,IW,OA⟩:=hx
    exact ⟨x,hold x Bw (fun q=>e ⟨rfl,by rw [<-G5];exact q.1,by rw [<-IW];exact q.2⟩),G5,IW,OA⟩
   ·rw [iR (fun q=>e1 q.symm)] at hx
    exact hx
 ·rw [hlen] at pT
  have hne:=Ri o' c' k' IB KV KW (fun q=>by omega)
  rw [Maps.has_put_other hne]
  exact F.new o' c' k' pT IB KV KW
 ·rw [hlen] at pT
  by_cases e1:o'=o
  ·subst e1
   rw [jm ho]
   have:=Et hj v
   exact this.trans TD
  ·rw [iR (fun q=>e1 q.symm)]
   exact F.ks o' pT
 ·rw [hlen] at pT
  by_cases e1:o'=o
  ·subst e1
   rw [jm ho] at hx
   by_cases e2:x.cls=(cc:Int)/\x.fld=(k:Int)
   ·rw [KU x hx e2,e2.1,e2.2,jC]
    exact hv
   ·exact F.kd o' ho x (hold x hx e2)
  ·rw [iR (fun q=>e1 q.symm)] at hx
   exact F.kd o' pT x hx
theorem l4.putF {X:Nat->Prop} {wx w0 w2:World} {g:Mg} {h':Hp} {qs:List Nat} {a:Mc} {c:aH} {vc vo vx vs:Value} {l:List Va} {D:DataW Nat} (H:l4 1 X wx w0 g w h qs a c vc vo vx vs l) (hg:w.grownBy w2 (some g.mp)) (F:mB 0 w2 g.mp h' n D) (e1:h'.file=h.file) (e2:h'.input=h.input) (e3:h'.fuel=h.fuel) (e4:h'.sh=h.sh) (e5:h'.objs.map (fun o=>Value.int .i64 o.cls)=h.objs.map (fun o=>Value.int .i64 o.cls)) :
  l4 0 X wx w0 g w2 h' qs a c vc vo vx vs l:=by
 have R:=H.rh
 obtain ⟨n0,D0,F0⟩:=R.fld
 obtain ⟨fr,fh,fm,fc,fo,fx⟩:=H.ca.farC R
 have n1:(some g.mp:Option Nat)≠some g.r:=fun e=>iC R.run F0.own (Option.some.inj e).symm
 have n2:(some g.mp:Option Nat)≠some g.hb:=fun e=>iC R.hp F0.own (Option.some.inj e).symm
 have r1:gM g h' vc vx=gM g h vc vx:=by unfold gM;rw [e1,e2,e3,e4]
 have r2:fC g h' vo=fC g h vo:=by unfold fC;rw [e1]
 have hlen:h'.objs.length=h.objs.length:=by have:=congrArg List.length e5;simpa using this
 refine ⟨⟨R.ownr,R.ownh,R.ownm,Below.grown R.bl hg R.bl.size (fun k e=>by cases e;exact R.ownm),by rw [r1];exact au hg R.run n1,by rw [r2];exact au hg R.hp n2,by rw [e4];exact R.out.kept hg (Or.inr (l5 R.out F0.own)),
  by rw [hlen,e5];exact R.obs.kept hg (Or.inr (l5 R.obs F0.own)),R.calls.kept hg (Or.inr (l5 R.calls F0.own)),n,D,F⟩,H.ca.kept hg (fun b e=>by cases e;exact fm),H.farr,H.farc,H.kept.kept hg (fun b e hx=>by cases e;exact (H.farr _ hx).m rfl)⟩
theorem IX:(h.setV o j v).objs.map (fun o=>Value.int .i64 o.cls)=h.objs.map (fun o=>Value.int .i64 o.cls):=by
 apply List.ext_getElem
 ·simp [Hp.setV]
 ·intro i h1 h2
  simp only [Hp.setV,List.getElem_map,List.getElem_set]
  split
  ·rename_i e
   subst e
   have hi:o<h.objs.length:=by simpa [Hp.setV] using h1
   rw [bU hi]
  ·rfl
theorem BO (X:Nat->Prop) (wx w0:World) (g:Mg) (h:Hp) (qs:List Nat) (a:Mc) (c:aH) (o j cc k:Nat) (v:Va) (w:World) (H:RX 1 X wx w0 g w h qs a c) (ho:o<h.objs.length) (hl:h.objs.length<=100) (hst:h.sh.steps<=100000) (hj:j<(nth cB h.objs o).held.length) (hc:(nth cH (nth cB h.objs o).held j).cls=(cc:Int)) (hk:(nth cH (nth cB h.objs o).held j).fld=(k:Int)) (pQ:cc<=12) (h6:k<=12) (hv:v.kind=(dW h.file.classes cc k).kind) :
  Calls Tryz.prog 184 #[.pointer (some ⟨g.hb,0,none⟩),cn ⟨3,(o:Int)+1⟩,int i64 cc,int i64 k,cn (im v)] w fun e w'=>e=.returned (.tuple #[])/\RX 0 X wx w0 g w' (h.setV o j v) qs a c:=by
 have io:cP ((o:Int)+1):=by unfold cP;omega
 have ic:cP (cc:Int):=by unfold cP;omega
 have ik:cP (k:Int):=by unfold cP;omega
 obtain ⟨vc,vo,vx,vs,l,H⟩:=H
 obtain ⟨n,D,F⟩:=H.rh.fld
 have hn:n<maxLen:=by have:=F.few;unfold maxLen;omega
 have mM:Hid (∀w,Calls Tryz.prog 229 #[.pointer (some ⟨g.hb,0,none⟩),cn ⟨3,(o:Int)+1⟩,int i64 (cc:Int),int i64 (k:Int)] w fun e w'=>e=.returned (jf ((o:Int)+1) cc k)/\Bl w w'):=fun w=>lD g.hb ⟨3,o⟩ cc k rfl (by simp) w
 have TE:Hid (∀w2,Bl w w2->∃w3,(Instr.mapUpdate 169 (.map (some g.mp)) (jf ((o:Int)+1) cc k) (cn (im v))).run Tryz.prog w2=.ok () w3/\w2.grownBy w3 (some g.mp)/\RX 0 X wx w0 g w3 (h.setV o j v) qs a c):=fun w2 hb=>by
  have F2:=F.own.kept (dy hb none) (by simp)
  obtain ⟨w3,h1,h2,h3⟩:=F2.update j6 Tryz.underlying169 hn (lV io ic ik) (si (im v))
  have F3:mB 1 w2 g.mp h n D:=⟨F2,F.few,F.hit,F.miss,F.new,F.ks,F.kd⟩
  exact ⟨w3,h1,h3,vc,vo,vx,vs,l,(H.bl hb).putF h3 (F3.put ho hl hj hc hk ic ik hv h2) rfl rfl rfl rfl IX⟩
 obtain ⟨vn,KY⟩:∃vn:Int,(o:Int)+1=vn:=⟨_,rfl⟩
 rw [KY] at mM TE ⊢
 obtain ⟨L0,L1⟩:=bD w #[int i64 3,int i64 vn] #[int i64 (im v).kind,int i64 (im v).n] 100 100
 have HB:Hid (Bl w ((w.alloc (dL ⟨3,vn⟩)).alloc (dL (im v)))):=((Bl.refl w).alloc _).alloc _
 have z0:=ab (aK L0)
 have z1:=ab (aI L0)
 have z2:=ab (aK L1)
 have z3:=ab (aI L1)
 have zm:Hid (((w.alloc (dL ⟨3,vn⟩)).alloc (dL (im v))).cell? ⟨g.hb,2,none⟩=some (.map (some g.mp))):=Bl.cell HB.out H.rh.heapCells.2.2
 have IY:=F.own.lt
 have eY:g.hb≠g.mp:=iC H.rh.hp F.own
 have DM:w.heap.size≠g.mp:=by omega
 have DN:w.heap.size+1≠g.mp:=by omega
 clear H F L0 L1 io ic ik KY hn hv hc hk hj
 go_enter Tryz.func184,Tryz.ntmps184
 go_wp2
 refine wp_region_held_drew (S:=fun w'=>w'.cell? ⟨g.hb,2,none⟩=some (.map (some g.mp))/\w'.cell? ⟨w.heap.size,0,none⟩=some (int i64 3)/\w'.cell? ⟨w.heap.size,1,none⟩=some (int i64 vn)/\w'.cell? ⟨w.heap.size+1,0,none⟩=some (int i64 (im v).kind)/\w'.cell? ⟨w.heap.size+1,1,none⟩=some (int i64 (im v).n)) (by kernel_rfl) ?_ (fun ae=>?_)
 ·exact ⟨zm.out,z0.out,z1.out,z2.out,z3.out⟩
 iterate 9 (refine tn rfl (by kernel_rfl) (fun _ _ _ h=>h) (by intro _ h;go_split_ands;go_simp<;>with_reducible rfl) ae ?_;try simp only [aS,aN,aT,a0,a1])
 refine bI (i:=8) (by kernel_rfl) rfl fun K hK=>?_
 go_simp
 go_at_call 229
 refine (mM.out _).mono ?_
 rintro e w2 ⟨rfl,b2⟩
 have d0:=ab (b2.cell ae.1)
 have d1:=ab (b2.cell ae.2.1)
 have d2:=ab (b2.cell ae.2.2.1)
 have d3:=ab (b2.cell ae.2.2.2.1)
 have d4:=ab (b2.cell ae.2.2.2.2)
 replace b2:=ab b2
 go_wp2_with fail
 refine hK.out _ _ (⟨d0.out,d1.out,d2.out,d3.out,d4.out⟩) (fun ah=>?_)
 try simp only [aS,aN,aT,a0,a1]
 refine bI (i:=10) (by kernel_rfl) rfl fun K hK=>?_
 obtain ⟨w3,hu,vq,H3⟩:=TE.out _ (HB.out.drew.trans b2.out)
 replace H3:=ab H3
 go_wp2_with fail
 refine hK.out _ _ (⟨vq.cell d0.out (fun e=>eY (Option.some.inj e)),vq.cell d1.out (fun e=>DM (Option.some.inj e)),vq.cell d2.out (fun e=>DM (Option.some.inj e)),vq.cell d3.out (fun e=>DN (Option.some.inj e)),vq.cell d4.out (fun e=>DN (Option.some.inj e))⟩) (fun aX=>?_)
 try simp only [aS,aN,aT,a0,a1]
 refine wpAnyH_done (by kernel_rfl) ?_ _
 go_wp2
 go_end0
 exact ⟨rfl,H3.out⟩
theorem BP (s:Nat) (X:Nat->Prop) (wx w0:World) (g:Mg) (h:Hp) (qs:List Nat) (a:Mc) (c:aH) (v u:Va) (cc k:Int) (w:World) (H:RX s X wx w0 g w h qs a c) (hl:h.objs.length<=100) (ho:h.over=false) (hk:v.kind=3) (hv:v.n=-1) :
  Calls Tryz.prog 184 #[.pointer (some ⟨g.hb,0,none⟩),cn (im v),int i64 cc,int i64 k,cn u] w fun e w'=>e=bM h/\RX s X wx w0 g w' (h.raise 1) qs a c:=by
 have e:im v=⟨3,0⟩:=by rw [gp hk,hv];rfl
 have mM:Hid (∀w,RX s X wx w0 g w h qs a c->Calls Tryz.prog 229 #[.pointer (some ⟨g.hb,0,none⟩),cn ⟨3,0⟩,int i64 cc,int i64 k] w fun e w'=>e=bM h/\RX s X wx w0 g w' (h.raise 1) qs a c):=fun w H=>e▸ou s X wx w0 g h qs a c v cc k w H hl ho hk hv
 rw [e]
 obtain ⟨L0,L1⟩:=bD w #[int i64 3,int i64 0] #[int i64 u.kind,int i64 u.n] 100 100
 have HB:Hid (Bl w ((w.alloc (dL ⟨3,0⟩)).alloc (dL u))):=((Bl.refl w).alloc _).alloc _
 have HH:=ab H
 have z0:=ab (aK L0)
 have z1:=ab (aI L0)
 have z2:=ab (aK L1)
 have z3:=ab (aI L1)
 have zm:Hid (((w.alloc (dL ⟨3,0⟩)).alloc (dL u)).cell? ⟨g.hb,2,none⟩=some (.map (some g.mp))):=by
  obtain ⟨vc,vo,vx,vs,l,H⟩:=H
  exact Bl.cell HB.out H.rh.heapCells.2.2
 obtain ⟨E,hE⟩:∃E,bM h=E:=⟨_,rfl⟩
 have HX:Hid (∃ch,E=.panicked ch):=by
  rw [<-hE];unfold bM;split<;>exact ⟨_,rfl⟩
 rw [hE] at mM ⊢
 clear hk hv e H hl ho hE L0 L1
 obtain ⟨ch,rfl⟩:=HX.out
 go_enter Tryz.func184,Tryz.ntmps184
 go_wp2
 refine wp_region_held_drew (S:=fun w'=>w'.cell? ⟨g.hb,2,none⟩=some (.map (some g.mp))/\w'.cell? ⟨w.heap.size,0,none⟩=some (int i64 3)/\w'.cell? ⟨w.heap.size,1,none⟩=some (int i64 0)/\w'.cell? ⟨w.heap.size+1,0,none⟩=some (int i64 u.kind)/\w'.cell? ⟨w.heap.size+1,1,none⟩=some (int i64 u.n)) (by kernel_rfl) ?_ (fun ae=>?_)
 ·exact ⟨zm.out,z0.out,z1.out,z2.out,z3.out⟩
 iterate 9 (refine tn rfl (by kernel_rfl) (fun _ _ _ h=>h) (by intro _ h;go_split_ands;go_simp<;>with_reducible rfl) ae ?_;try simp only [aS,aN,aT,a0,a1])
 refine bI (i:=8) (by kernel_rfl) rfl fun K hK=>?_
 go_simp
 go_at_call 229
 refine (mM.out _ (HH.out.bl HB.out.drew)).mono ?_
 rintro e w2 ⟨rfl,H2⟩
 exact ⟨rfl,rfl,H2⟩
end
end Go.Proofs.YtgiiapenmjollaaGreat
