import Derived.Test.YtgiiapenmjollabGreatRlau
import Derived.Test.YtgiiapenmjollabGreatRlaw
namespace Go.Proofs.YtgiiapenmjollabGreat
set_option linter.all false
set_option maxHeartbeats 40000000
set_option maxRecDepth 100000
open Go.RowKit
section
open Go.Maps (Keyed has)
theorem work_op15a (X:Nat→Prop) (wx w0:World) (g:Mg) (h:Hp) (qs:List Qb) (a:Mc) (c:Cal) (ia ib ic ii:Int) (args:List Int) (Q:Option Addr) (nl q:Nat) (w:World) (H:RX 1 X wx w0 g w h qs a c) (hs:h.stops=false) (ha:0≤ia∧ia<c.locs.length) (hb:0≤ib∧ib<c.locs.length) (F:Fix w0 g h) (hob:h.objs.length≤100) (hva:(c.rd ia).kind=3→-1≤(c.rd ia).n∧(c.rd ia).n<h.objs.length) (hvb:(c.rd ib).kind=3→-1≤(c.rd ib).n∧(c.rd ib).n<h.objs.length) (hfl:0≤ic∧ic<h.file.classes.length∧0≤ii∧ii<(nth cl0 h.file.classes ic.toNat).fields.length) (h2:(fieldT h.file.classes ic ii).kind=2→ia+1<c.locs.length) (hof:h.of (c.rd ia) (fieldT h.file.classes ic ii)=false) :
  Calls Tryz.prog 142 #[.pointer (some ⟨a.q,0,none⟩),.agg #[.int .i64 15,.int .i64 ia,.int .i64 ib,.int .i64 ic,.int .i64 ii,.slice Q nl q]] w fun e w'=>DidQ X wx w0 g qs a c ⟨h.fin 6,c.clr,c.pc+1⟩ e w':=by
 obtain ⟨cc,rfl⟩:∃cc:Nat,ic=cc:=⟨ic.toNat,by omega⟩
 obtain ⟨k,rfl⟩:∃k:Nat,ii=k:=⟨ii.toNat,by omega⟩
 rw [Int.toNat_natCast] at hfl
 have hc:cc<h.file.classes.length:=by omega
 have hkf:k<(nth cl0 h.file.classes cc).fields.length:=by omega
 have ho:=(stops_not hs).1
 have HH:=hid H
 have HS:=hid hs
 have hq:=H.qlt
 have HB:Hid (Bl w (w.alloc (.cells #[.int .i64 15,.int .i64 ia,.int .i64 ib,.int .i64 (cc:Int),.int .i64 (k:Int),.slice Q nl q] 58))):=(Bl.refl w).alloc _
 have HL0:=hid (blk_new w #[.int .i64 15,.int .i64 ia,.int .i64 ib,.int .i64 (cc:Int),.int .i64 (k:Int),.slice Q nl q] 58)
 have z0:=hid ((H.y.bl HB.out).hb)
 have z1:=hid (insC HL0.out)
 obtain ⟨fb,fo,FB,ff,uc,hA,y0,m1,m2,y1,y2⟩:=fld_cells F.cls hc hkf
 have HBW:Bl w0 w:=by
  obtain ⟨vc,vo,vx,vs,l,H⟩:=H
  exact H.rh.bl
 have z3:Hid ((w.alloc (.cells #[.int .i64 15,.int .i64 ia,.int .i64 ib,.int .i64 (cc:Int),.int .i64 (k:Int),.slice Q nl q] 58)).cell? ⟨g.hb,0,none⟩=some (.slice (some ⟨fb,fo,none⟩) h.file.classes.length g.a)):=by
  obtain ⟨vc,vo,vx,vs,l,H⟩:=H
  rw [←hA]
  exact Bl.cell HB.out H.rh.heapCells.1
 have hhb:g.hb<w.heap.size:=by
  obtain ⟨vc,vo,vx,vs,l,H⟩:=H
  exact lt_some H.rh.hp
 have hf1:=cell_lt (Bl.cell HBW y0)
 have hf2:=cell_lt (Bl.cell HBW y1)
 have z4:=hid (Bl.cell HB.out (Bl.cell HBW y0))
 have z5:=hid (Bl.cell HB.out (Bl.cell HBW y1))
 have z6:=hid (Bl.cell HB.out (Bl.cell HBW y2))
 have hfk:=field_kind F.may hc hkf
 rw [fieldT_nat] at hfk h2 hof
 obtain ⟨t,ht⟩:∃t,nth ty0 (nth cl0 h.file.classes cc).fields k=t:=⟨_,rfl⟩
 rw [ht] at z5 z6 y1 y2 hfk h2 hof
 have hc0:(0:Int)≤(cc:Int):=by omega
 have hc1:(cc:Int)<(h.file.classes.length:Int):=by omega
 have hk0:(0:Int)≤(k:Int):=by omega
 have hk1:(k:Int)<((nth cl0 h.file.classes cc).fields.length:Int):=by omega
 have HT:Hid (∀w',RX 1 X wx w0 g w' h qs a c→Calls Tryz.prog 201 #[.pointer (some ⟨a.q,0,none⟩),.int .i64 ia,tyMV t] w' fun e w2=>e=stopE 6 0 0∧Bl w' w2):=fun w' H=>rdT_no 1 X wx w0 g h qs a c ia t w' H F hob ha hfk h2 hva hof
 clear H hs F hfl hA y0 y1 y2 m1 m2 HBW hfk h2 ht ha hb hob hva hvb hc hkf hof
 go_enter Tryz.func142,Tryz.ntmps142
 go_wp2
 refine wp_region_held_drew (S:=fun w'=>w'.cell? ⟨a.q,0,none⟩=some (.pointer (some ⟨g.hb,0,none⟩))∧w'.cell? ⟨w.heap.size,1,none⟩=some (.int .i64 ia)∧w'.cell? ⟨w.heap.size,3,none⟩=some (.int .i64 (cc:Int))∧w'.cell? ⟨w.heap.size,4,none⟩=some (.int .i64 (k:Int))∧w'.cell? ⟨g.hb,0,none⟩=some (.slice (some ⟨fb,fo,none⟩) h.file.classes.length g.a)∧w'.cell? ⟨fb,fo+cc*2+1,none⟩=some (.slice (some ⟨FB,ff,none⟩) (nth cl0 h.file.classes cc).fields.length uc)∧w'.cell? ⟨FB,ff+k*2,none⟩=some (.int .i64 t.kind)∧w'.cell? ⟨FB,ff+k*2+1,none⟩=some (.int .i64 t.cls)) (by kernel_rfl) ?_ (fun hHeld0=>?_)
 ·exact ⟨z0.out,z1.out.2.1,z1.out.2.2.2.1,z1.out.2.2.2.2.1,z3.out,z4.out,z5.out,z6.out⟩
 refine tk (i:=0) (d:=some 19) rfl rfl (by kernel_rfl) (fun _ _ _ h=>h) (by rfl) (by intro _ h;(try dsimp only at h);go_split_ands;go_simp<;>with_reducible rfl) hHeld0 ?_
 try simp only [aS,aN,aT,a0,a1]
 refine tk (i:=1) (d:=some 20) rfl rfl (by kernel_rfl) (fun _ _ _ h=>h) (by rfl) (by intro _ h;(try dsimp only at h);go_split_ands;go_simp<;>with_reducible rfl) hHeld0 ?_
 try simp only [aS,aN,aT,a0,a1]
 refine tk (i:=2) (d:=some 21) rfl rfl (by kernel_rfl) (fun _ _ _ h=>h) (by rfl) (by intro _ h;(try dsimp only at h);go_split_ands;go_simp<;>with_reducible rfl) hHeld0 ?_
 try simp only [aS,aN,aT,a0,a1]
 refine tk (i:=3) (d:=some 22) rfl rfl (by kernel_rfl) (fun _ _ _ h=>h) (by rfl) (by intro _ h;(try dsimp only at h);go_split_ands;go_simp<;>with_reducible rfl) hHeld0 ?_
 try simp only [aS,aN,aT,a0,a1]
 refine tk (i:=4) (d:=some 23) rfl rfl (by kernel_rfl) (fun _ _ _ h=>h) (by rfl) (by intro _ h;(try dsimp only at h);go_split_ands;go_simp<;>with_reducible rfl) hHeld0 ?_
 try simp only [aS,aN,aT,a0,a1]
 refine tk (i:=5) (d:=some 24) rfl rfl (by kernel_rfl) (fun _ _ _ h=>h) (by rfl) (by intro _ h;(try dsimp only at h);go_split_ands;go_simp<;>with_reducible rfl) hHeld0 ?_
 try simp only [aS,aN,aT,a0,a1]
 refine tk (i:=6) (d:=some 25) rfl rfl (by kernel_rfl) (fun _ _ _ h=>h) (by rfl) (by intro _ h;(try dsimp only at h);go_split_ands;go_simp<;>with_reducible rfl) hHeld0 ?_
 try simp only [aS,aN,aT,a0,a1]
 refine tk (i:=7) (d:=some 26) rfl rfl (by kernel_rfl) (fun _ _ _ h=>h) (by rfl) (by intro _ h;(try dsimp only at h);go_split_ands;go_simp<;>with_reducible rfl) hHeld0 ?_
 try simp only [aS,aN,aT,a0,a1]
 refine tk (i:=8) (d:=some 27) rfl rfl (by kernel_rfl) (fun _ _ _ h=>h) (by rfl) (by intro _ h;(try dsimp only at h);go_split_ands;go_simp<;>with_reducible rfl) hHeld0 ?_
 try simp only [aS,aN,aT,a0,a1]
 refine tk (i:=9) (d:=some 28) rfl rfl (by kernel_rfl) (fun _ _ _ h=>h) (by rfl) (by intro _ h;(try dsimp only at h);go_split_ands;go_simp<;>with_reducible rfl) hHeld0 ?_
 try simp only [aS,aN,aT,a0,a1]
 refine tk (i:=10) (d:=some 29) rfl rfl (by kernel_rfl) (fun _ _ _ h=>h) (by rfl) (by intro _ h;(try dsimp only at h);go_split_ands;go_simp<;>with_reducible rfl) hHeld0 ?_
 try simp only [aS,aN,aT,a0,a1]
 refine tk (i:=11) (d:=some 30) rfl rfl (by kernel_rfl) (fun _ _ _ h=>h) (by rfl) (by intro _ h;(try dsimp only at h);go_split_ands;go_simp<;>with_reducible rfl) hHeld0 ?_
 try simp only [aS,aN,aT,a0,a1]
 refine tk (i:=12) (d:=some 31) rfl rfl (by kernel_rfl) (fun _ _ _ h=>h) (by rfl) (by intro _ h;(try dsimp only at h);go_split_ands;go_simp<;>with_reducible rfl) hHeld0 ?_
 try simp only [aS,aN,aT,a0,a1]
 refine tk (i:=13) (d:=some 32) rfl rfl (by kernel_rfl) (fun _ _ _ h=>h) (by rfl) (by intro _ h;(try dsimp only at h);go_split_ands;go_simp<;>with_reducible rfl) hHeld0 ?_
 try simp only [aS,aN,aT,a0,a1]
 refine tk (i:=14) (d:=some 33) rfl rfl (by kernel_rfl) (fun _ _ _ h=>h) (by rfl) (by intro _ h;(try dsimp only at h);go_split_ands;go_simp<;>with_reducible rfl) hHeld0 ?_
 try simp only [aS,aN,aT,a0,a1]
 refine tk (i:=15) (d:=some 34) rfl rfl (by kernel_rfl) (fun _ _ _ h=>h) (by rfl) (by intro _ h;(try dsimp only at h);go_split_ands;go_simp<;>with_reducible rfl) hHeld0 ?_
 try simp only [aS,aN,aT,a0,a1]
 refine tk (i:=16) (d:=some 35) rfl rfl (by kernel_rfl) (fun _ _ _ h=>h) (by rfl) (by intro _ h;(try dsimp only at h);go_split_ands;go_simp<;>with_reducible rfl) hHeld0 ?_
 try simp only [aS,aN,aT,a0,a1]
 refine tk (i:=17) (d:=some 36) rfl rfl (by kernel_rfl) (fun _ _ _ h=>h) (by rfl) (by intro _ h;(try dsimp only at h);go_split_ands;go_simp<;>with_reducible rfl) hHeld0 ?_
 try simp only [aS,aN,aT,a0,a1]
 refine tk (i:=18) (d:=some 37) rfl rfl (by kernel_rfl) (fun _ _ _ h=>h) (by rfl) (by intro _ h;(try dsimp only at h);go_split_ands;go_simp<;>with_reducible rfl) hHeld0 ?_
 try simp only [aS,aN,aT,a0,a1]
 refine wpAnyH_ready (rs:=[19,20]) (by kernel_rfl) (by simp) ?_
 refine AllReadyH.cons rfl (fun K hK=>?_) (AllReadyH.cons rfl (fun K hK=>?_) (AllReadyH.nil))
 ·go_simp
  go_at_call 201
  refine (HT.out _ (HH.out.bl (by first|exact HB.out.drew|exact HB.out.drew.alloc _))).mono ?_
  rintro e w2 ⟨rfl,b2⟩
  exact ⟨rfl,did_fin (stops_not HS.out).1 rfl ((HH.out.bl (by first|exact HB.out.drew|exact HB.out.drew.alloc _)).bl b2).less.rs⟩
 ·go_wp2_with fail
  refine hK.out _ _ (⟨Bl.cell ((Bl.refl _).alloc _) hHeld0.1,Bl.cell ((Bl.refl _).alloc _) hHeld0.2.1,Bl.cell ((Bl.refl _).alloc _) hHeld0.2.2.1,Bl.cell ((Bl.refl _).alloc _) hHeld0.2.2.2.1,Bl.cell ((Bl.refl _).alloc _) hHeld0.2.2.2.2.1,Bl.cell ((Bl.refl _).alloc _) hHeld0.2.2.2.2.2.1,Bl.cell ((Bl.refl _).alloc _) hHeld0.2.2.2.2.2.2.1,Bl.cell ((Bl.refl _).alloc _) hHeld0.2.2.2.2.2.2.2⟩) (fun hHeld1=>?_)
  try simp only [aS,aN,aT,a0,a1]
  refine rd1 (i:=19) (by kernel_rfl) rfl fun K hK=>?_
  go_simp
  go_at_call 201
  refine (HT.out _ (HH.out.bl (by first|exact HB.out.drew|exact HB.out.drew.alloc _))).mono ?_
  rintro e w2 ⟨rfl,b2⟩
  exact ⟨rfl,did_fin (stops_not HS.out).1 rfl ((HH.out.bl (by first|exact HB.out.drew|exact HB.out.drew.alloc _)).bl b2).less.rs⟩
theorem work_op15b (X:Nat→Prop) (wx w0:World) (g:Mg) (h:Hp) (qs:List Qb) (a:Mc) (c:Cal) (ia ib ic ii:Int) (args:List Int) (Q:Option Addr) (nl q:Nat) (w:World) (H:RX 1 X wx w0 g w h qs a c) (hs:h.stops=false) (ha:0≤ia∧ia<c.locs.length) (hb:0≤ib∧ib<c.locs.length) (F:Fix w0 g h) (hob:h.objs.length≤100) (hva:(c.rd ia).kind=3→-1≤(c.rd ia).n∧(c.rd ia).n<h.objs.length) (hvb:(c.rd ib).kind=3→-1≤(c.rd ib).n∧(c.rd ib).n<h.objs.length) (hfl:0≤ic∧ic<h.file.classes.length∧0≤ii∧ii<(nth cl0 h.file.classes ic.toNat).fields.length) (h2:(fieldT h.file.classes ic ii).kind=2→ia+1<c.locs.length) (hof:h.of (c.rd ia) (fieldT h.file.classes ic ii)=true) (hou:h.of (c.rd ib) ⟨3,ic⟩=false) :
  Calls Tryz.prog 142 #[.pointer (some ⟨a.q,0,none⟩),.agg #[.int .i64 15,.int .i64 ia,.int .i64 ib,.int .i64 ic,.int .i64 ii,.slice Q nl q]] w fun e w'=>DidQ X wx w0 g qs a c ⟨h.fin 6,c.clr,c.pc+1⟩ e w':=by
 obtain ⟨cc,rfl⟩:∃cc:Nat,ic=cc:=⟨ic.toNat,by omega⟩
 obtain ⟨k,rfl⟩:∃k:Nat,ii=k:=⟨ii.toNat,by omega⟩
 rw [Int.toNat_natCast] at hfl
 have hc:cc<h.file.classes.length:=by omega
 have hkf:k<(nth cl0 h.file.classes cc).fields.length:=by omega
 have ho:=(stops_not hs).1
 have HH:=hid H
 have HS:=hid hs
 have hq:=H.qlt
 have HB:Hid (Bl w (w.alloc (.cells #[.int .i64 15,.int .i64 ia,.int .i64 ib,.int .i64 (cc:Int),.int .i64 (k:Int),.slice Q nl q] 58))):=(Bl.refl w).alloc _
 have HL0:=hid (blk_new w #[.int .i64 15,.int .i64 ia,.int .i64 ib,.int .i64 (cc:Int),.int .i64 (k:Int),.slice Q nl q] 58)
 have z0:=hid ((H.y.bl HB.out).hb)
 have z1:=hid (insC HL0.out)
 obtain ⟨fb,fo,FB,ff,uc,hA,y0,m1,m2,y1,y2⟩:=fld_cells F.cls hc hkf
 have HBW:Bl w0 w:=by
  obtain ⟨vc,vo,vx,vs,l,H⟩:=H
  exact H.rh.bl
 have z3:Hid ((w.alloc (.cells #[.int .i64 15,.int .i64 ia,.int .i64 ib,.int .i64 (cc:Int),.int .i64 (k:Int),.slice Q nl q] 58)).cell? ⟨g.hb,0,none⟩=some (.slice (some ⟨fb,fo,none⟩) h.file.classes.length g.a)):=by
  obtain ⟨vc,vo,vx,vs,l,H⟩:=H
  rw [←hA]
  exact Bl.cell HB.out H.rh.heapCells.1
 have hhb:g.hb<w.heap.size:=by
  obtain ⟨vc,vo,vx,vs,l,H⟩:=H
  exact lt_some H.rh.hp
 have hf1:=cell_lt (Bl.cell HBW y0)
 have hf2:=cell_lt (Bl.cell HBW y1)
 have z4:=hid (Bl.cell HB.out (Bl.cell HBW y0))
 have z5:=hid (Bl.cell HB.out (Bl.cell HBW y1))
 have z6:=hid (Bl.cell HB.out (Bl.cell HBW y2))
 have hfk:=field_kind F.may hc hkf
 rw [fieldT_nat] at hfk h2 hof
 obtain ⟨t,ht⟩:∃t,nth ty0 (nth cl0 h.file.classes cc).fields k=t:=⟨_,rfl⟩
 rw [ht] at z5 z6 y1 y2 hfk h2 hof
 have hc0:(0:Int)≤(cc:Int):=by omega
 have hc1:(cc:Int)<(h.file.classes.length:Int):=by omega
 have hk0:(0:Int)≤(k:Int):=by omega
 have hk1:(k:Int)<((nth cl0 h.file.classes cc).fields.length:Int):=by omega
 have HT1:Hid (∀w',RX 1 X wx w0 g w' h qs a c→Calls Tryz.prog 201 #[.pointer (some ⟨a.q,0,none⟩),.int .i64 ia,tyMV t] w' fun e w2=>e=.returned (mvV (im (c.rd ia)))∧Bl w' w2):=fun w' H=>rdT_yes 1 X wx w0 g h qs a c ia t w' H F hob ha hfk h2 hva hof
 have TK:(1:Int)≤(⟨3,(cc:Int)⟩:Ty).kind∧(⟨3,(cc:Int)⟩:Ty).kind≤3:=⟨by show (1:Int)≤3;decide,by show (3:Int)≤3;decide⟩
 have T2:(⟨3,(cc:Int)⟩:Ty).kind=2→ib+1<c.locs.length:=fun x=>by have:(3:Int)=2:=x;omega
 have HT2:Hid (∀w',RX 1 X wx w0 g w' h qs a c→Calls Tryz.prog 201 #[.pointer (some ⟨a.q,0,none⟩),.int .i64 ib,tyMV ⟨3,(cc:Int)⟩] w' fun e w2=>e=stopE 6 0 0∧Bl w' w2):=fun w' H=>rdT_no 1 X wx w0 g h qs a c ib ⟨3,(cc:Int)⟩ w' H F hob hb TK T2 hvb hou
 clear H hs F hfl hA y0 y1 y2 m1 m2 HBW hfk h2 ht ha hb hob hva hvb hc hkf hof hou TK T2
 go_enter Tryz.func142,Tryz.ntmps142
 go_wp2
 refine wp_region_held_drew (S:=fun w'=>w'.cell? ⟨a.q,0,none⟩=some (.pointer (some ⟨g.hb,0,none⟩))∧w'.cell? ⟨w.heap.size,1,none⟩=some (.int .i64 ia)∧w'.cell? ⟨w.heap.size,3,none⟩=some (.int .i64 (cc:Int))∧w'.cell? ⟨w.heap.size,4,none⟩=some (.int .i64 (k:Int))∧w'.cell? ⟨g.hb,0,none⟩=some (.slice (some ⟨fb,fo,none⟩) h.file.classes.length g.a)∧w'.cell? ⟨fb,fo+cc*2+1,none⟩=some (.slice (some ⟨FB,ff,none⟩) (nth cl0 h.file.classes cc).fields.length uc)∧w'.cell? ⟨FB,ff+k*2,none⟩=some (.int .i64 t.kind)∧w'.cell? ⟨FB,ff+k*2+1,none⟩=some (.int .i64 t.cls)) (by kernel_rfl) ?_ (fun hHeld0=>?_)
 ·exact ⟨z0.out,z1.out.2.1,z1.out.2.2.2.1,z1.out.2.2.2.2.1,z3.out,z4.out,z5.out,z6.out⟩
 refine tk (i:=0) (d:=some 19) rfl rfl (by kernel_rfl) (fun _ _ _ h=>h) (by rfl) (by intro _ h;(try dsimp only at h);go_split_ands;go_simp<;>with_reducible rfl) hHeld0 ?_
 try simp only [aS,aN,aT,a0,a1]
 refine tk (i:=1) (d:=some 20) rfl rfl (by kernel_rfl) (fun _ _ _ h=>h) (by rfl) (by intro _ h;(try dsimp only at h);go_split_ands;go_simp<;>with_reducible rfl) hHeld0 ?_
 try simp only [aS,aN,aT,a0,a1]
 refine tk (i:=2) (d:=some 21) rfl rfl (by kernel_rfl) (fun _ _ _ h=>h) (by rfl) (by intro _ h;(try dsimp only at h);go_split_ands;go_simp<;>with_reducible rfl) hHeld0 ?_
 try simp only [aS,aN,aT,a0,a1]
 refine tk (i:=3) (d:=some 22) rfl rfl (by kernel_rfl) (fun _ _ _ h=>h) (by rfl) (by intro _ h;(try dsimp only at h);go_split_ands;go_simp<;>with_reducible rfl) hHeld0 ?_
 try simp only [aS,aN,aT,a0,a1]
 refine tk (i:=4) (d:=some 23) rfl rfl (by kernel_rfl) (fun _ _ _ h=>h) (by rfl) (by intro _ h;(try dsimp only at h);go_split_ands;go_simp<;>with_reducible rfl) hHeld0 ?_
 try simp only [aS,aN,aT,a0,a1]
 refine tk (i:=5) (d:=some 24) rfl rfl (by kernel_rfl) (fun _ _ _ h=>h) (by rfl) (by intro _ h;(try dsimp only at h);go_split_ands;go_simp<;>with_reducible rfl) hHeld0 ?_
 try simp only [aS,aN,aT,a0,a1]
 refine tk (i:=6) (d:=some 25) rfl rfl (by kernel_rfl) (fun _ _ _ h=>h) (by rfl) (by intro _ h;(try dsimp only at h);go_split_ands;go_simp<;>with_reducible rfl) hHeld0 ?_
 try simp only [aS,aN,aT,a0,a1]
 refine tk (i:=7) (d:=some 26) rfl rfl (by kernel_rfl) (fun _ _ _ h=>h) (by rfl) (by intro _ h;(try dsimp only at h);go_split_ands;go_simp<;>with_reducible rfl) hHeld0 ?_
 try simp only [aS,aN,aT,a0,a1]
 refine tk (i:=8) (d:=some 27) rfl rfl (by kernel_rfl) (fun _ _ _ h=>h) (by rfl) (by intro _ h;(try dsimp only at h);go_split_ands;go_simp<;>with_reducible rfl) hHeld0 ?_
 try simp only [aS,aN,aT,a0,a1]
 refine tk (i:=9) (d:=some 28) rfl rfl (by kernel_rfl) (fun _ _ _ h=>h) (by rfl) (by intro _ h;(try dsimp only at h);go_split_ands;go_simp<;>with_reducible rfl) hHeld0 ?_
 try simp only [aS,aN,aT,a0,a1]
 refine tk (i:=10) (d:=some 29) rfl rfl (by kernel_rfl) (fun _ _ _ h=>h) (by rfl) (by intro _ h;(try dsimp only at h);go_split_ands;go_simp<;>with_reducible rfl) hHeld0 ?_
 try simp only [aS,aN,aT,a0,a1]
 refine tk (i:=11) (d:=some 30) rfl rfl (by kernel_rfl) (fun _ _ _ h=>h) (by rfl) (by intro _ h;(try dsimp only at h);go_split_ands;go_simp<;>with_reducible rfl) hHeld0 ?_
 try simp only [aS,aN,aT,a0,a1]
 refine tk (i:=12) (d:=some 31) rfl rfl (by kernel_rfl) (fun _ _ _ h=>h) (by rfl) (by intro _ h;(try dsimp only at h);go_split_ands;go_simp<;>with_reducible rfl) hHeld0 ?_
 try simp only [aS,aN,aT,a0,a1]
 refine tk (i:=13) (d:=some 32) rfl rfl (by kernel_rfl) (fun _ _ _ h=>h) (by rfl) (by intro _ h;(try dsimp only at h);go_split_ands;go_simp<;>with_reducible rfl) hHeld0 ?_
 try simp only [aS,aN,aT,a0,a1]
 refine tk (i:=14) (d:=some 33) rfl rfl (by kernel_rfl) (fun _ _ _ h=>h) (by rfl) (by intro _ h;(try dsimp only at h);go_split_ands;go_simp<;>with_reducible rfl) hHeld0 ?_
 try simp only [aS,aN,aT,a0,a1]
 refine tk (i:=15) (d:=some 34) rfl rfl (by kernel_rfl) (fun _ _ _ h=>h) (by rfl) (by intro _ h;(try dsimp only at h);go_split_ands;go_simp<;>with_reducible rfl) hHeld0 ?_
 try simp only [aS,aN,aT,a0,a1]
 refine tk (i:=16) (d:=some 35) rfl rfl (by kernel_rfl) (fun _ _ _ h=>h) (by rfl) (by intro _ h;(try dsimp only at h);go_split_ands;go_simp<;>with_reducible rfl) hHeld0 ?_
 try simp only [aS,aN,aT,a0,a1]
 refine tk (i:=17) (d:=some 36) rfl rfl (by kernel_rfl) (fun _ _ _ h=>h) (by rfl) (by intro _ h;(try dsimp only at h);go_split_ands;go_simp<;>with_reducible rfl) hHeld0 ?_
 try simp only [aS,aN,aT,a0,a1]
 refine tk (i:=18) (d:=some 37) rfl rfl (by kernel_rfl) (fun _ _ _ h=>h) (by rfl) (by intro _ h;(try dsimp only at h);go_split_ands;go_simp<;>with_reducible rfl) hHeld0 ?_
 try simp only [aS,aN,aT,a0,a1]
 refine wpAnyH_ready (rs:=[19,20]) (by kernel_rfl) (by simp) ?_
 refine AllReadyH.cons rfl (fun K hK=>?_) (AllReadyH.cons rfl (fun K hK=>?_) (AllReadyH.nil))
 ·go_simp
  go_at_call 201
  refine (HT1.out _ (HH.out.bl (by first|exact HB.out.drew|exact HB.out.drew.alloc _))).mono ?_
  rintro e w2 ⟨rfl,b2⟩
  have dk0:=hid (b2.cell hHeld0.1)
  have dk1:=hid (b2.cell hHeld0.2.1)
  have dk2:=hid (b2.cell hHeld0.2.2.1)
  have dk3:=hid (b2.cell hHeld0.2.2.2.1)
  have dk4:=hid (b2.cell hHeld0.2.2.2.2.1)
  have dk5:=hid (b2.cell hHeld0.2.2.2.2.2.1)
  have dk6:=hid (b2.cell hHeld0.2.2.2.2.2.2.1)
  have dk7:=hid (b2.cell hHeld0.2.2.2.2.2.2.2)
  replace b2:=hid b2
  have bb2:Hid (Bl w w2):=by first|exact HB.out.drew.trans b2.out|exact (HB.out.drew.alloc _).trans b2.out
  have bx2:=bl_blk b2.out (by first|exact HL0.out|exact (Below.heap_alloc _ _ _ (lt_some HL0.out)).trans HL0.out)
  have hsz:=b2.out.size
  try (have q9:=bl_blk b2.out (b:=w.heap.size+1) (two_lie w _ _ _ _).2;have p0:=c0_of q9;have p1:=c1_of q9;have pz:=free_blk q9;replace q9:=hid q9)
  replace bx2:=hid bx2
  go_wp2_with fail
  refine hK.out _ _ (⟨dk0.out,dk1.out,dk2.out,dk3.out,dk4.out,dk5.out,dk6.out,dk7.out⟩) (fun hHeld1=>?_)
  try simp only [aS,aN,aT,a0,a1]
  refine rd1 (i:=20) (by kernel_rfl) rfl fun K hK=>?_
  go_wp2_with fail
  refine hK.out _ _ (⟨Bl.cell ((Bl.refl _).alloc _) hHeld1.1,Bl.cell ((Bl.refl _).alloc _) hHeld1.2.1,Bl.cell ((Bl.refl _).alloc _) hHeld1.2.2.1,Bl.cell ((Bl.refl _).alloc _) hHeld1.2.2.2.1,Bl.cell ((Bl.refl _).alloc _) hHeld1.2.2.2.2.1,Bl.cell ((Bl.refl _).alloc _) hHeld1.2.2.2.2.2.1,Bl.cell ((Bl.refl _).alloc _) hHeld1.2.2.2.2.2.2.1,Bl.cell ((Bl.refl _).alloc _) hHeld1.2.2.2.2.2.2.2⟩) (fun hHeld2=>?_)
  try simp only [aS,aN,aT,a0,a1]
  refine rd1 (i:=21) (by kernel_rfl) rfl fun K hK=>?_
  go_wp2_with fail
  refine hK.out _ _ (by first|exact ⟨Bl.cell ((Bl.refl _).alloc _) dk0.out,Bl.cell ((Bl.refl _).alloc _) dk1.out,Bl.cell ((Bl.refl _).alloc _) dk2.out,Bl.cell ((Bl.refl _).alloc _) dk3.out,Bl.cell ((Bl.refl _).alloc _) dk4.out,Bl.cell ((Bl.refl _).alloc _) dk5.out,Bl.cell ((Bl.refl _).alloc _) dk6.out,Bl.cell ((Bl.refl _).alloc _) dk7.out⟩|exact ⟨set2_cellD dk0.out (by omega),set2_cellD dk1.out (by omega),set2_cellD dk2.out (by omega),set2_cellD dk3.out (by omega),set2_cellD dk4.out (by omega),set2_cellD dk5.out (by omega),set2_cellD dk6.out (by omega),set2_cellD dk7.out (by omega)⟩) (fun hHeld3=>?_)
  try simp only [aS,aN,aT,a0,a1]
  refine wpAnyH_done (by kernel_rfl) ?_ _
  go_wp2
  first
   | (have hQ:∃W b4,Bl w W∧w.heap.size<b4∧W.heap[w.heap.size]?=some (.cells #[.int .i64 15,.int .i64 ia,.int .i64 ib,.int .i64 (cc:Int),.int .i64 (k:Int),.slice Q nl q] 58 (0,0))∧W.heap[b4]?=some (.cells #[.int .i64 (im (c.rd ia)).kind,.int .i64 (im (c.rd ia)).n] 115 (0,0))∧W=w2.alloc (mvO (im (c.rd ia)))∧b4=w2.heap.size:=⟨_,_,bb2.out.alloc _,lt_some bx2.out,(Below.heap_alloc _ _ _ (lt_some bx2.out)).trans bx2.out,blk_new _ _ _,rfl,rfl⟩;obtain ⟨W,b4,B4,y1,g1,g2,gW,gb⟩:=hQ;rw [←gb,←gW])
   | (have hQ:∃W b4,Bl w W∧w.heap.size<b4∧W.heap[w.heap.size]?=some (.cells #[.int .i64 15,.int .i64 ia,.int .i64 ib,.int .i64 (cc:Int),.int .i64 (k:Int),.slice Q nl q] 58 (0,0))∧W.heap[b4]?=some (.cells #[.int .i64 (im (c.rd ia)).kind,.int .i64 (im (c.rd ia)).n] 115 (0,0))∧W=((w2.setCell ⟨w.heap.size+1,0,none⟩ (.int .i64 (im (c.rd ia)).kind)).setCell ⟨w.heap.size+1,1,none⟩ (.int .i64 (im (c.rd ia)).n))∧b4=w.heap.size+1:=⟨_,_,bl_two bb2.out (Nat.le_succ _) _ _,Nat.lt_succ_self _,set_two_far bx2.out (by omega) _ _,set_two q9.out,rfl,rfl⟩;obtain ⟨W,b4,B4,y1,g1,g2,gW,gb⟩:=hQ;rw [←gW,←gb])
  clear gW gb
  have H4:=hid (HH.out.bl B4)
  have x0:=hid H4.out.y.hb
  have x1:=hid (insC g1)
  have x3:=hid (c0_of g2)
  have x4:=hid (c1_of g2)
  replace B4:=hid B4
  replace g1:=hid g1
  replace g2:=hid g2
  refine wp_region_held_drew (S:=fun w'=>w'.cell? ⟨a.q,0,none⟩=some (.pointer (some ⟨g.hb,0,none⟩))∧w'.cell? ⟨w.heap.size,2,none⟩=some (.int .i64 ib)∧w'.cell? ⟨w.heap.size,3,none⟩=some (.int .i64 (cc:Int))∧w'.cell? ⟨w.heap.size,4,none⟩=some (.int .i64 (k:Int))∧w'.cell? ⟨b4,0,none⟩=some (.int .i64 (im (c.rd ia)).kind)∧w'.cell? ⟨b4,1,none⟩=some (.int .i64 (im (c.rd ia)).n)) (by kernel_rfl) ?_ (fun hHeld0=>?_)
  ·exact ⟨x0.out,x1.out.2.2.1,x1.out.2.2.2.1,x1.out.2.2.2.2.1,x3.out,x4.out⟩
  refine tk (i:=0) (d:=some 39) rfl rfl (by kernel_rfl) (fun _ _ _ h=>h) (by rfl) (by intro _ h;(try dsimp only at h);go_split_ands;go_simp<;>with_reducible rfl) hHeld0 ?_
  try simp only [aS,aN,aT,a0,a1]
  refine tk (i:=1) (d:=some 40) rfl rfl (by kernel_rfl) (fun _ _ _ h=>h) (by rfl) (by intro _ h;(try dsimp only at h);go_split_ands;go_simp<;>with_reducible rfl) hHeld0 ?_
  try simp only [aS,aN,aT,a0,a1]
  refine tk (i:=2) (d:=some 41) rfl rfl (by kernel_rfl) (fun _ _ _ h=>h) (by rfl) (by intro _ h;(try dsimp only at h);go_split_ands;go_simp<;>with_reducible rfl) hHeld0 ?_
  try simp only [aS,aN,aT,a0,a1]
  refine tk (i:=3) (d:=some 42) rfl rfl (by kernel_rfl) (fun _ _ _ h=>h) (by rfl) (by intro _ h;(try dsimp only at h);go_split_ands;go_simp<;>with_reducible rfl) hHeld0 ?_
  try simp only [aS,aN,aT,a0,a1]
  refine tk (i:=4) (d:=some 43) rfl rfl (by kernel_rfl) (fun _ _ _ h=>h) (by rfl) (by intro _ h;(try dsimp only at h);go_split_ands;go_simp<;>with_reducible rfl) hHeld0 ?_
  try simp only [aS,aN,aT,a0,a1]
  refine tk (i:=5) (d:=some 44) rfl rfl (by kernel_rfl) (fun _ _ _ h=>h) (by rfl) (by intro _ h;(try dsimp only at h);go_split_ands;go_simp<;>with_reducible rfl) hHeld0 ?_
  try simp only [aS,aN,aT,a0,a1]
  refine tk (i:=6) (d:=some 45) rfl rfl (by kernel_rfl) (fun _ _ _ h=>h) (by rfl) (by intro _ h;(try dsimp only at h);go_split_ands;go_simp<;>with_reducible rfl) hHeld0 ?_
  try simp only [aS,aN,aT,a0,a1]
  refine tk (i:=7) (d:=some 46) rfl rfl (by kernel_rfl) (fun _ _ _ h=>h) (by rfl) (by intro _ h;(try dsimp only at h);go_split_ands;go_simp<;>with_reducible rfl) hHeld0 ?_
  try simp only [aS,aN,aT,a0,a1]
  refine tk (i:=8) (d:=some 47) rfl rfl (by kernel_rfl) (fun _ _ _ h=>h) (by rfl) (by intro _ h;(try dsimp only at h);go_split_ands;go_simp<;>with_reducible rfl) hHeld0 ?_
  try simp only [aS,aN,aT,a0,a1]
  refine tk (i:=11) (d:=some 50) rfl rfl (by kernel_rfl) (fun _ _ _ h=>h) (by rfl) (by intro _ h;(try dsimp only at h);go_split_ands;go_simp<;>with_reducible rfl) hHeld0 ?_
  try simp only [aS,aN,aT,a0,a1]
  refine tk (i:=12) (d:=some 51) rfl rfl (by kernel_rfl) (fun _ _ _ h=>h) (by rfl) (by intro _ h;(try dsimp only at h);go_split_ands;go_simp<;>with_reducible rfl) hHeld0 ?_
  try simp only [aS,aN,aT,a0,a1]
  refine tk (i:=13) (d:=some 52) rfl rfl (by kernel_rfl) (fun _ _ _ h=>h) (by rfl) (by intro _ h;(try dsimp only at h);go_split_ands;go_simp<;>with_reducible rfl) hHeld0 ?_
  try simp only [aS,aN,aT,a0,a1]
  refine tk (i:=14) (d:=some 53) rfl rfl (by kernel_rfl) (fun _ _ _ h=>h) (by rfl) (by intro _ h;(try dsimp only at h);go_split_ands;go_simp<;>with_reducible rfl) hHeld0 ?_
  try simp only [aS,aN,aT,a0,a1]
  refine tk (i:=15) (d:=some 54) rfl rfl (by kernel_rfl) (fun _ _ _ h=>h) (by rfl) (by intro _ h;(try dsimp only at h);go_split_ands;go_simp<;>with_reducible rfl) hHeld0 ?_
  try simp only [aS,aN,aT,a0,a1]
  refine rd1 (i:=9) (by kernel_rfl) rfl fun K hK=>?_
  go_simp
  go_at_call 205
  refine (refOf_any (cc:Int) _).mono ?_
  rintro e w5 ⟨rfl,b5⟩
  have dm0:=hid (b5.cell hHeld0.1)
  have dm1:=hid (b5.cell hHeld0.2.1)
  have dm2:=hid (b5.cell hHeld0.2.2.1)
  have dm3:=hid (b5.cell hHeld0.2.2.2.1)
  have dm4:=hid (b5.cell hHeld0.2.2.2.2.1)
  have dm5:=hid (b5.cell hHeld0.2.2.2.2.2)
  replace b5:=hid b5
  go_wp2_with fail
  refine hK.out _ _ (⟨dm0.out,dm1.out,dm2.out,dm3.out,dm4.out,dm5.out⟩) (fun hHeld1=>?_)
  try simp only [aS,aN,aT,a0,a1]
  refine rd1 (i:=10) (by kernel_rfl) rfl fun K hK=>?_
  go_simp
  go_at_call 201
  refine (HT2.out _ (H4.out.bl ((Bl.refl W).drew.trans b5.out))).mono ?_
  rintro e w6 ⟨rfl,b6⟩
  exact ⟨rfl,did_fin (stops_not HS.out).1 rfl (H4.out.bl (((Bl.refl W).drew.trans b5.out).trans b6)).less.rs⟩
 ·go_wp2_with fail
  refine hK.out _ _ (⟨Bl.cell ((Bl.refl _).alloc _) hHeld0.1,Bl.cell ((Bl.refl _).alloc _) hHeld0.2.1,Bl.cell ((Bl.refl _).alloc _) hHeld0.2.2.1,Bl.cell ((Bl.refl _).alloc _) hHeld0.2.2.2.1,Bl.cell ((Bl.refl _).alloc _) hHeld0.2.2.2.2.1,Bl.cell ((Bl.refl _).alloc _) hHeld0.2.2.2.2.2.1,Bl.cell ((Bl.refl _).alloc _) hHeld0.2.2.2.2.2.2.1,Bl.cell ((Bl.refl _).alloc _) hHeld0.2.2.2.2.2.2.2⟩) (fun hHeld4=>?_)
  try simp only [aS,aN,aT,a0,a1]
  refine rd1 (i:=19) (by kernel_rfl) rfl fun K hK=>?_
  go_simp
  go_at_call 201
  refine (HT1.out _ (HH.out.bl (by first|exact HB.out.drew|exact HB.out.drew.alloc _))).mono ?_
  rintro e w2 ⟨rfl,b2⟩
  have dk0:=hid (b2.cell hHeld4.1)
  have dk1:=hid (b2.cell hHeld4.2.1)
  have dk2:=hid (b2.cell hHeld4.2.2.1)
  have dk3:=hid (b2.cell hHeld4.2.2.2.1)
  have dk4:=hid (b2.cell hHeld4.2.2.2.2.1)
  have dk5:=hid (b2.cell hHeld4.2.2.2.2.2.1)
  have dk6:=hid (b2.cell hHeld4.2.2.2.2.2.2.1)
  have dk7:=hid (b2.cell hHeld4.2.2.2.2.2.2.2)
  replace b2:=hid b2
  have bb2:Hid (Bl w w2):=by first|exact HB.out.drew.trans b2.out|exact (HB.out.drew.alloc _).trans b2.out
  have bx2:=bl_blk b2.out (by first|exact HL0.out|exact (Below.heap_alloc _ _ _ (lt_some HL0.out)).trans HL0.out)
  have hsz:=b2.out.size
  try (have q9:=bl_blk b2.out (b:=w.heap.size+1) (two_lie w _ _ _ _).2;have p0:=c0_of q9;have p1:=c1_of q9;have pz:=free_blk q9;replace q9:=hid q9)
  replace bx2:=hid bx2
  go_wp2_with fail
  refine hK.out _ _ (⟨dk0.out,dk1.out,dk2.out,dk3.out,dk4.out,dk5.out,dk6.out,dk7.out⟩) (fun hHeld5=>?_)
  try simp only [aS,aN,aT,a0,a1]
  refine rd1 (i:=21) (by kernel_rfl) rfl fun K hK=>?_
  go_wp2_with fail
  refine hK.out _ _ (by first|exact ⟨Bl.cell ((Bl.refl _).alloc _) dk0.out,Bl.cell ((Bl.refl _).alloc _) dk1.out,Bl.cell ((Bl.refl _).alloc _) dk2.out,Bl.cell ((Bl.refl _).alloc _) dk3.out,Bl.cell ((Bl.refl _).alloc _) dk4.out,Bl.cell ((Bl.refl _).alloc _) dk5.out,Bl.cell ((Bl.refl _).alloc _) dk6.out,Bl.cell ((Bl.refl _).alloc _) dk7.out⟩|exact ⟨set2_cellD dk0.out (by omega),set2_cellD dk1.out (by omega),set2_cellD dk2.out (by omega),set2_cellD dk3.out (by omega),set2_cellD dk4.out (by omega),set2_cellD dk5.out (by omega),set2_cellD dk6.out (by omega),set2_cellD dk7.out (by omega)⟩) (fun hHeld6=>?_)
  try simp only [aS,aN,aT,a0,a1]
  refine wpAnyH_done (by kernel_rfl) ?_ _
  go_wp2
  first
   | (have hQ:∃W b4,Bl w W∧w.heap.size<b4∧W.heap[w.heap.size]?=some (.cells #[.int .i64 15,.int .i64 ia,.int .i64 ib,.int .i64 (cc:Int),.int .i64 (k:Int),.slice Q nl q] 58 (0,0))∧W.heap[b4]?=some (.cells #[.int .i64 (im (c.rd ia)).kind,.int .i64 (im (c.rd ia)).n] 115 (0,0))∧W=w2.alloc (mvO (im (c.rd ia)))∧b4=w2.heap.size:=⟨_,_,bb2.out.alloc _,lt_some bx2.out,(Below.heap_alloc _ _ _ (lt_some bx2.out)).trans bx2.out,blk_new _ _ _,rfl,rfl⟩;obtain ⟨W,b4,B4,y1,g1,g2,gW,gb⟩:=hQ;rw [←gb,←gW])
   | (have hQ:∃W b4,Bl w W∧w.heap.size<b4∧W.heap[w.heap.size]?=some (.cells #[.int .i64 15,.int .i64 ia,.int .i64 ib,.int .i64 (cc:Int),.int .i64 (k:Int),.slice Q nl q] 58 (0,0))∧W.heap[b4]?=some (.cells #[.int .i64 (im (c.rd ia)).kind,.int .i64 (im (c.rd ia)).n] 115 (0,0))∧W=((w2.setCell ⟨w.heap.size+1,0,none⟩ (.int .i64 (im (c.rd ia)).kind)).setCell ⟨w.heap.size+1,1,none⟩ (.int .i64 (im (c.rd ia)).n))∧b4=w.heap.size+1:=⟨_,_,bl_two bb2.out (Nat.le_succ _) _ _,Nat.lt_succ_self _,set_two_far bx2.out (by omega) _ _,set_two q9.out,rfl,rfl⟩;obtain ⟨W,b4,B4,y1,g1,g2,gW,gb⟩:=hQ;rw [←gW,←gb])
  clear gW gb
  have H4:=hid (HH.out.bl B4)
  have x0:=hid H4.out.y.hb
  have x1:=hid (insC g1)
  have x3:=hid (c0_of g2)
  have x4:=hid (c1_of g2)
  replace B4:=hid B4
  replace g1:=hid g1
  replace g2:=hid g2
  refine wp_region_held_drew (S:=fun w'=>w'.cell? ⟨a.q,0,none⟩=some (.pointer (some ⟨g.hb,0,none⟩))∧w'.cell? ⟨w.heap.size,2,none⟩=some (.int .i64 ib)∧w'.cell? ⟨w.heap.size,3,none⟩=some (.int .i64 (cc:Int))∧w'.cell? ⟨w.heap.size,4,none⟩=some (.int .i64 (k:Int))∧w'.cell? ⟨b4,0,none⟩=some (.int .i64 (im (c.rd ia)).kind)∧w'.cell? ⟨b4,1,none⟩=some (.int .i64 (im (c.rd ia)).n)) (by kernel_rfl) ?_ (fun hHeld0=>?_)
  ·exact ⟨x0.out,x1.out.2.2.1,x1.out.2.2.2.1,x1.out.2.2.2.2.1,x3.out,x4.out⟩
  refine tk (i:=0) (d:=some 39) rfl rfl (by kernel_rfl) (fun _ _ _ h=>h) (by rfl) (by intro _ h;(try dsimp only at h);go_split_ands;go_simp<;>with_reducible rfl) hHeld0 ?_
  try simp only [aS,aN,aT,a0,a1]
  refine tk (i:=1) (d:=some 40) rfl rfl (by kernel_rfl) (fun _ _ _ h=>h) (by rfl) (by intro _ h;(try dsimp only at h);go_split_ands;go_simp<;>with_reducible rfl) hHeld0 ?_
  try simp only [aS,aN,aT,a0,a1]
  refine tk (i:=2) (d:=some 41) rfl rfl (by kernel_rfl) (fun _ _ _ h=>h) (by rfl) (by intro _ h;(try dsimp only at h);go_split_ands;go_simp<;>with_reducible rfl) hHeld0 ?_
  try simp only [aS,aN,aT,a0,a1]
  refine tk (i:=3) (d:=some 42) rfl rfl (by kernel_rfl) (fun _ _ _ h=>h) (by rfl) (by intro _ h;(try dsimp only at h);go_split_ands;go_simp<;>with_reducible rfl) hHeld0 ?_
  try simp only [aS,aN,aT,a0,a1]
  refine tk (i:=4) (d:=some 43) rfl rfl (by kernel_rfl) (fun _ _ _ h=>h) (by rfl) (by intro _ h;(try dsimp only at h);go_split_ands;go_simp<;>with_reducible rfl) hHeld0 ?_
  try simp only [aS,aN,aT,a0,a1]
  refine tk (i:=5) (d:=some 44) rfl rfl (by kernel_rfl) (fun _ _ _ h=>h) (by rfl) (by intro _ h;(try dsimp only at h);go_split_ands;go_simp<;>with_reducible rfl) hHeld0 ?_
  try simp only [aS,aN,aT,a0,a1]
  refine tk (i:=6) (d:=some 45) rfl rfl (by kernel_rfl) (fun _ _ _ h=>h) (by rfl) (by intro _ h;(try dsimp only at h);go_split_ands;go_simp<;>with_reducible rfl) hHeld0 ?_
  try simp only [aS,aN,aT,a0,a1]
  refine tk (i:=7) (d:=some 46) rfl rfl (by kernel_rfl) (fun _ _ _ h=>h) (by rfl) (by intro _ h;(try dsimp only at h);go_split_ands;go_simp<;>with_reducible rfl) hHeld0 ?_
  try simp only [aS,aN,aT,a0,a1]
  refine tk (i:=8) (d:=some 47) rfl rfl (by kernel_rfl) (fun _ _ _ h=>h) (by rfl) (by intro _ h;(try dsimp only at h);go_split_ands;go_simp<;>with_reducible rfl) hHeld0 ?_
  try simp only [aS,aN,aT,a0,a1]
  refine tk (i:=11) (d:=some 50) rfl rfl (by kernel_rfl) (fun _ _ _ h=>h) (by rfl) (by intro _ h;(try dsimp only at h);go_split_ands;go_simp<;>with_reducible rfl) hHeld0 ?_
  try simp only [aS,aN,aT,a0,a1]
  refine tk (i:=12) (d:=some 51) rfl rfl (by kernel_rfl) (fun _ _ _ h=>h) (by rfl) (by intro _ h;(try dsimp only at h);go_split_ands;go_simp<;>with_reducible rfl) hHeld0 ?_
  try simp only [aS,aN,aT,a0,a1]
  refine tk (i:=13) (d:=some 52) rfl rfl (by kernel_rfl) (fun _ _ _ h=>h) (by rfl) (by intro _ h;(try dsimp only at h);go_split_ands;go_simp<;>with_reducible rfl) hHeld0 ?_
  try simp only [aS,aN,aT,a0,a1]
  refine tk (i:=14) (d:=some 53) rfl rfl (by kernel_rfl) (fun _ _ _ h=>h) (by rfl) (by intro _ h;(try dsimp only at h);go_split_ands;go_simp<;>with_reducible rfl) hHeld0 ?_
  try simp only [aS,aN,aT,a0,a1]
  refine tk (i:=15) (d:=some 54) rfl rfl (by kernel_rfl) (fun _ _ _ h=>h) (by rfl) (by intro _ h;(try dsimp only at h);go_split_ands;go_simp<;>with_reducible rfl) hHeld0 ?_
  try simp only [aS,aN,aT,a0,a1]
  refine rd1 (i:=9) (by kernel_rfl) rfl fun K hK=>?_
  go_simp
  go_at_call 205
  refine (refOf_any (cc:Int) _).mono ?_
  rintro e w5 ⟨rfl,b5⟩
  have dm0:=hid (b5.cell hHeld0.1)
  have dm1:=hid (b5.cell hHeld0.2.1)
  have dm2:=hid (b5.cell hHeld0.2.2.1)
  have dm3:=hid (b5.cell hHeld0.2.2.2.1)
  have dm4:=hid (b5.cell hHeld0.2.2.2.2.1)
  have dm5:=hid (b5.cell hHeld0.2.2.2.2.2)
  replace b5:=hid b5
  go_wp2_with fail
  refine hK.out _ _ (⟨dm0.out,dm1.out,dm2.out,dm3.out,dm4.out,dm5.out⟩) (fun hHeld1=>?_)
  try simp only [aS,aN,aT,a0,a1]
  refine rd1 (i:=10) (by kernel_rfl) rfl fun K hK=>?_
  go_simp
  go_at_call 201
  refine (HT2.out _ (H4.out.bl ((Bl.refl W).drew.trans b5.out))).mono ?_
  rintro e w6 ⟨rfl,b6⟩
  exact ⟨rfl,did_fin (stops_not HS.out).1 rfl (H4.out.bl (((Bl.refl W).drew.trans b5.out).trans b6)).less.rs⟩
theorem work_op15c (X:Nat→Prop) (wx w0:World) (g:Mg) (h:Hp) (qs:List Qb) (a:Mc) (c:Cal) (ia ib ic ii:Int) (args:List Int) (Q:Option Addr) (nl q:Nat) (w:World) (H:RX 1 X wx w0 g w h qs a c) (hs:h.stops=false) (ha:0≤ia∧ia<c.locs.length) (hb:0≤ib∧ib<c.locs.length) (F:Fix w0 g h) (hob:h.objs.length≤100) (hva:(c.rd ia).kind=3→-1≤(c.rd ia).n∧(c.rd ia).n<h.objs.length) (hvb:(c.rd ib).kind=3→-1≤(c.rd ib).n∧(c.rd ib).n<h.objs.length) (hfl:0≤ic∧ic<h.file.classes.length∧0≤ii∧ii<(nth cl0 h.file.classes ic.toNat).fields.length) (h2:(fieldT h.file.classes ic ii).kind=2→ia+1<c.locs.length) (hof:h.of (c.rd ia) (fieldT h.file.classes ic ii)=true) (hou:h.of (c.rd ib) ⟨3,ic⟩=true) (hun:(c.rd ib).n<0) :
  Calls Tryz.prog 142 #[.pointer (some ⟨a.q,0,none⟩),.agg #[.int .i64 15,.int .i64 ia,.int .i64 ib,.int .i64 ic,.int .i64 ii,.slice Q nl q]] w fun e w'=>DidQ X wx w0 g qs a c ⟨h.raise 1,c.clr,c.pc+1⟩ e w':=by
 obtain ⟨cc,rfl⟩:∃cc:Nat,ic=cc:=⟨ic.toNat,by omega⟩
 obtain ⟨k,rfl⟩:∃k:Nat,ii=k:=⟨ii.toNat,by omega⟩
 rw [Int.toNat_natCast] at hfl
 have hc:cc<h.file.classes.length:=by omega
 have hkf:k<(nth cl0 h.file.classes cc).fields.length:=by omega
 have ho:=(stops_not hs).1
 have HH:=hid H
 have HS:=hid hs
 have hq:=H.qlt
 have HB:Hid (Bl w (w.alloc (.cells #[.int .i64 15,.int .i64 ia,.int .i64 ib,.int .i64 (cc:Int),.int .i64 (k:Int),.slice Q nl q] 58))):=(Bl.refl w).alloc _
 have HL0:=hid (blk_new w #[.int .i64 15,.int .i64 ia,.int .i64 ib,.int .i64 (cc:Int),.int .i64 (k:Int),.slice Q nl q] 58)
 have z0:=hid ((H.y.bl HB.out).hb)
 have z1:=hid (insC HL0.out)
 obtain ⟨fb,fo,FB,ff,uc,hA,y0,m1,m2,y1,y2⟩:=fld_cells F.cls hc hkf
 have HBW:Bl w0 w:=by
  obtain ⟨vc,vo,vx,vs,l,H⟩:=H
  exact H.rh.bl
 have z3:Hid ((w.alloc (.cells #[.int .i64 15,.int .i64 ia,.int .i64 ib,.int .i64 (cc:Int),.int .i64 (k:Int),.slice Q nl q] 58)).cell? ⟨g.hb,0,none⟩=some (.slice (some ⟨fb,fo,none⟩) h.file.classes.length g.a)):=by
  obtain ⟨vc,vo,vx,vs,l,H⟩:=H
  rw [←hA]
  exact Bl.cell HB.out H.rh.heapCells.1
 have hhb:g.hb<w.heap.size:=by
  obtain ⟨vc,vo,vx,vs,l,H⟩:=H
  exact lt_some H.rh.hp
 have hf1:=cell_lt (Bl.cell HBW y0)
 have hf2:=cell_lt (Bl.cell HBW y1)
 have z4:=hid (Bl.cell HB.out (Bl.cell HBW y0))
 have z5:=hid (Bl.cell HB.out (Bl.cell HBW y1))
 have z6:=hid (Bl.cell HB.out (Bl.cell HBW y2))
 have hfk:=field_kind F.may hc hkf
 rw [fieldT_nat] at hfk h2 hof
 obtain ⟨t,ht⟩:∃t,nth ty0 (nth cl0 h.file.classes cc).fields k=t:=⟨_,rfl⟩
 rw [ht] at z5 z6 y1 y2 hfk h2 hof
 have hc0:(0:Int)≤(cc:Int):=by omega
 have hc1:(cc:Int)<(h.file.classes.length:Int):=by omega
 have hk0:(0:Int)≤(k:Int):=by omega
 have hk1:(k:Int)<((nth cl0 h.file.classes cc).fields.length:Int):=by omega
 have HT1:Hid (∀w',RX 1 X wx w0 g w' h qs a c→Calls Tryz.prog 201 #[.pointer (some ⟨a.q,0,none⟩),.int .i64 ia,tyMV t] w' fun e w2=>e=.returned (mvV (im (c.rd ia)))∧Bl w' w2):=fun w' H=>rdT_yes 1 X wx w0 g h qs a c ia t w' H F hob ha hfk h2 hva hof
 have TK:(1:Int)≤(⟨3,(cc:Int)⟩:Ty).kind∧(⟨3,(cc:Int)⟩:Ty).kind≤3:=⟨by show (1:Int)≤3;decide,by show (3:Int)≤3;decide⟩
 have T2:(⟨3,(cc:Int)⟩:Ty).kind=2→ib+1<c.locs.length:=fun x=>by have:(3:Int)=2:=x;omega
 have e1:(c.rd ib).kind=3:=of_ref hou
 have hv3:=hvb e1
 have HT2:Hid (∀w',RX 1 X wx w0 g w' h qs a c→Calls Tryz.prog 201 #[.pointer (some ⟨a.q,0,none⟩),.int .i64 ib,tyMV ⟨3,(cc:Int)⟩] w' fun e w2=>e=.returned (mvV (im (c.rd ib)))∧Bl w' w2):=fun w' H=>rdT_yes 1 X wx w0 g h qs a c ib ⟨3,(cc:Int)⟩ w' H F hob hb TK T2 hvb hou
 obtain ⟨ch,hch⟩:=raiseE_pan h
 have HP:Hid (∀w',RX 1 X wx w0 g w' h qs a c→Calls Tryz.prog 204 #[.pointer (some ⟨g.hb,0,none⟩),mvV (im (c.rd ib)),.int .i64 (cc:Int),.int .i64 (k:Int),mvV (im (c.rd ia))] w' fun e w2=>e=.panicked ch∧RX 1 X wx w0 g w2 (h.raise 1) qs a c):=fun w' H=>hch▸mputF_nil 1 X wx w0 g h qs a c (c.rd ib) (im (c.rd ia)) cc k w' H hob ho e1 (by omega)
 have HE:Hid (∀w',RX 1 X wx w0 g w' (h.raise 1) qs a c→DidQ X wx w0 g qs a c ⟨h.raise 1,c.clr,c.pc+1⟩ (.panicked ch) w'):=fun w' H=>hch▸did_raise hs rfl H.less.rs
 generalize im (c.rd ib)=UI at HT2 HP
 clear H hs F hfl hA y0 y1 y2 m1 m2 HBW hfk h2 ht ha hb hob hva hvb hc hkf hof hou TK T2 e1 hv3 hun hch
 go_enter Tryz.func142,Tryz.ntmps142
 go_wp2
 refine wp_region_held_drew (S:=fun w'=>w'.cell? ⟨a.q,0,none⟩=some (.pointer (some ⟨g.hb,0,none⟩))∧w'.cell? ⟨w.heap.size,1,none⟩=some (.int .i64 ia)∧w'.cell? ⟨w.heap.size,3,none⟩=some (.int .i64 (cc:Int))∧w'.cell? ⟨w.heap.size,4,none⟩=some (.int .i64 (k:Int))∧w'.cell? ⟨g.hb,0,none⟩=some (.slice (some ⟨fb,fo,none⟩) h.file.classes.length g.a)∧w'.cell? ⟨fb,fo+cc*2+1,none⟩=some (.slice (some ⟨FB,ff,none⟩) (nth cl0 h.file.classes cc).fields.length uc)∧w'.cell? ⟨FB,ff+k*2,none⟩=some (.int .i64 t.kind)∧w'.cell? ⟨FB,ff+k*2+1,none⟩=some (.int .i64 t.cls)) (by kernel_rfl) ?_ (fun hHeld0=>?_)
 ·exact ⟨z0.out,z1.out.2.1,z1.out.2.2.2.1,z1.out.2.2.2.2.1,z3.out,z4.out,z5.out,z6.out⟩
 refine tk (i:=0) (d:=some 19) rfl rfl (by kernel_rfl) (fun _ _ _ h=>h) (by rfl) (by intro _ h;(try dsimp only at h);go_split_ands;go_simp<;>with_reducible rfl) hHeld0 ?_
 try simp only [aS,aN,aT,a0,a1]
 refine tk (i:=1) (d:=some 20) rfl rfl (by kernel_rfl) (fun _ _ _ h=>h) (by rfl) (by intro _ h;(try dsimp only at h);go_split_ands;go_simp<;>with_reducible rfl) hHeld0 ?_
 try simp only [aS,aN,aT,a0,a1]
 refine tk (i:=2) (d:=some 21) rfl rfl (by kernel_rfl) (fun _ _ _ h=>h) (by rfl) (by intro _ h;(try dsimp only at h);go_split_ands;go_simp<;>with_reducible rfl) hHeld0 ?_
 try simp only [aS,aN,aT,a0,a1]
 refine tk (i:=3) (d:=some 22) rfl rfl (by kernel_rfl) (fun _ _ _ h=>h) (by rfl) (by intro _ h;(try dsimp only at h);go_split_ands;go_simp<;>with_reducible rfl) hHeld0 ?_
 try simp only [aS,aN,aT,a0,a1]
 refine tk (i:=4) (d:=some 23) rfl rfl (by kernel_rfl) (fun _ _ _ h=>h) (by rfl) (by intro _ h;(try dsimp only at h);go_split_ands;go_simp<;>with_reducible rfl) hHeld0 ?_
 try simp only [aS,aN,aT,a0,a1]
 refine tk (i:=5) (d:=some 24) rfl rfl (by kernel_rfl) (fun _ _ _ h=>h) (by rfl) (by intro _ h;(try dsimp only at h);go_split_ands;go_simp<;>with_reducible rfl) hHeld0 ?_
 try simp only [aS,aN,aT,a0,a1]
 refine tk (i:=6) (d:=some 25) rfl rfl (by kernel_rfl) (fun _ _ _ h=>h) (by rfl) (by intro _ h;(try dsimp only at h);go_split_ands;go_simp<;>with_reducible rfl) hHeld0 ?_
 try simp only [aS,aN,aT,a0,a1]
 refine tk (i:=7) (d:=some 26) rfl rfl (by kernel_rfl) (fun _ _ _ h=>h) (by rfl) (by intro _ h;(try dsimp only at h);go_split_ands;go_simp<;>with_reducible rfl) hHeld0 ?_
 try simp only [aS,aN,aT,a0,a1]
 refine tk (i:=8) (d:=some 27) rfl rfl (by kernel_rfl) (fun _ _ _ h=>h) (by rfl) (by intro _ h;(try dsimp only at h);go_split_ands;go_simp<;>with_reducible rfl) hHeld0 ?_
 try simp only [aS,aN,aT,a0,a1]
 refine tk (i:=9) (d:=some 28) rfl rfl (by kernel_rfl) (fun _ _ _ h=>h) (by rfl) (by intro _ h;(try dsimp only at h);go_split_ands;go_simp<;>with_reducible rfl) hHeld0 ?_
 try simp only [aS,aN,aT,a0,a1]
 refine tk (i:=10) (d:=some 29) rfl rfl (by kernel_rfl) (fun _ _ _ h=>h) (by rfl) (by intro _ h;(try dsimp only at h);go_split_ands;go_simp<;>with_reducible rfl) hHeld0 ?_
 try simp only [aS,aN,aT,a0,a1]
 refine tk (i:=11) (d:=some 30) rfl rfl (by kernel_rfl) (fun _ _ _ h=>h) (by rfl) (by intro _ h;(try dsimp only at h);go_split_ands;go_simp<;>with_reducible rfl) hHeld0 ?_
 try simp only [aS,aN,aT,a0,a1]
 refine tk (i:=12) (d:=some 31) rfl rfl (by kernel_rfl) (fun _ _ _ h=>h) (by rfl) (by intro _ h;(try dsimp only at h);go_split_ands;go_simp<;>with_reducible rfl) hHeld0 ?_
 try simp only [aS,aN,aT,a0,a1]
 refine tk (i:=13) (d:=some 32) rfl rfl (by kernel_rfl) (fun _ _ _ h=>h) (by rfl) (by intro _ h;(try dsimp only at h);go_split_ands;go_simp<;>with_reducible rfl) hHeld0 ?_
 try simp only [aS,aN,aT,a0,a1]
 refine tk (i:=14) (d:=some 33) rfl rfl (by kernel_rfl) (fun _ _ _ h=>h) (by rfl) (by intro _ h;(try dsimp only at h);go_split_ands;go_simp<;>with_reducible rfl) hHeld0 ?_
 try simp only [aS,aN,aT,a0,a1]
 refine tk (i:=15) (d:=some 34) rfl rfl (by kernel_rfl) (fun _ _ _ h=>h) (by rfl) (by intro _ h;(try dsimp only at h);go_split_ands;go_simp<;>with_reducible rfl) hHeld0 ?_
 try simp only [aS,aN,aT,a0,a1]
 refine tk (i:=16) (d:=some 35) rfl rfl (by kernel_rfl) (fun _ _ _ h=>h) (by rfl) (by intro _ h;(try dsimp only at h);go_split_ands;go_simp<;>with_reducible rfl) hHeld0 ?_
 try simp only [aS,aN,aT,a0,a1]
 refine tk (i:=17) (d:=some 36) rfl rfl (by kernel_rfl) (fun _ _ _ h=>h) (by rfl) (by intro _ h;(try dsimp only at h);go_split_ands;go_simp<;>with_reducible rfl) hHeld0 ?_
 try simp only [aS,aN,aT,a0,a1]
 refine tk (i:=18) (d:=some 37) rfl rfl (by kernel_rfl) (fun _ _ _ h=>h) (by rfl) (by intro _ h;(try dsimp only at h);go_split_ands;go_simp<;>with_reducible rfl) hHeld0 ?_
 try simp only [aS,aN,aT,a0,a1]
 refine wpAnyH_ready (rs:=[19,20]) (by kernel_rfl) (by simp) ?_
 refine AllReadyH.cons rfl (fun K hK=>?_) (AllReadyH.cons rfl (fun K hK=>?_) (AllReadyH.nil))
 ·go_simp
  go_at_call 201
  refine (HT1.out _ (HH.out.bl (by first|exact HB.out.drew|exact HB.out.drew.alloc _))).mono ?_
  rintro e w2 ⟨rfl,b2⟩
  have dk0:=hid (b2.cell hHeld0.1)
  have dk1:=hid (b2.cell hHeld0.2.1)
  have dk2:=hid (b2.cell hHeld0.2.2.1)
  have dk3:=hid (b2.cell hHeld0.2.2.2.1)
  have dk4:=hid (b2.cell hHeld0.2.2.2.2.1)
  have dk5:=hid (b2.cell hHeld0.2.2.2.2.2.1)
  have dk6:=hid (b2.cell hHeld0.2.2.2.2.2.2.1)
  have dk7:=hid (b2.cell hHeld0.2.2.2.2.2.2.2)
  replace b2:=hid b2
  have bb2:Hid (Bl w w2):=by first|exact HB.out.drew.trans b2.out|exact (HB.out.drew.alloc _).trans b2.out
  have bx2:=bl_blk b2.out (by first|exact HL0.out|exact (Below.heap_alloc _ _ _ (lt_some HL0.out)).trans HL0.out)
  have hsz:=b2.out.size
  try (have q9:=bl_blk b2.out (b:=w.heap.size+1) (two_lie w _ _ _ _).2;have p0:=c0_of q9;have p1:=c1_of q9;have pz:=free_blk q9;replace q9:=hid q9)
  replace bx2:=hid bx2
  go_wp2_with fail
  refine hK.out _ _ (⟨dk0.out,dk1.out,dk2.out,dk3.out,dk4.out,dk5.out,dk6.out,dk7.out⟩) (fun hHeld1=>?_)
  try simp only [aS,aN,aT,a0,a1]
  refine rd1 (i:=20) (by kernel_rfl) rfl fun K hK=>?_
  go_wp2_with fail
  refine hK.out _ _ (⟨Bl.cell ((Bl.refl _).alloc _) hHeld1.1,Bl.cell ((Bl.refl _).alloc _) hHeld1.2.1,Bl.cell ((Bl.refl _).alloc _) hHeld1.2.2.1,Bl.cell ((Bl.refl _).alloc _) hHeld1.2.2.2.1,Bl.cell ((Bl.refl _).alloc _) hHeld1.2.2.2.2.1,Bl.cell ((Bl.refl _).alloc _) hHeld1.2.2.2.2.2.1,Bl.cell ((Bl.refl _).alloc _) hHeld1.2.2.2.2.2.2.1,Bl.cell ((Bl.refl _).alloc _) hHeld1.2.2.2.2.2.2.2⟩) (fun hHeld2=>?_)
  try simp only [aS,aN,aT,a0,a1]
  refine rd1 (i:=21) (by kernel_rfl) rfl fun K hK=>?_
  go_wp2_with fail
  refine hK.out _ _ (by first|exact ⟨Bl.cell ((Bl.refl _).alloc _) dk0.out,Bl.cell ((Bl.refl _).alloc _) dk1.out,Bl.cell ((Bl.refl _).alloc _) dk2.out,Bl.cell ((Bl.refl _).alloc _) dk3.out,Bl.cell ((Bl.refl _).alloc _) dk4.out,Bl.cell ((Bl.refl _).alloc _) dk5.out,Bl.cell ((Bl.refl _).alloc _) dk6.out,Bl.cell ((Bl.refl _).alloc _) dk7.out⟩|exact ⟨set2_cellD dk0.out (by omega),set2_cellD dk1.out (by omega),set2_cellD dk2.out (by omega),set2_cellD dk3.out (by omega),set2_cellD dk4.out (by omega),set2_cellD dk5.out (by omega),set2_cellD dk6.out (by omega),set2_cellD dk7.out (by omega)⟩) (fun hHeld3=>?_)
  try simp only [aS,aN,aT,a0,a1]
  refine wpAnyH_done (by kernel_rfl) ?_ _
  go_wp2
  first
   | (have hQ:∃W b4,Bl w W∧w.heap.size<b4∧W.heap[w.heap.size]?=some (.cells #[.int .i64 15,.int .i64 ia,.int .i64 ib,.int .i64 (cc:Int),.int .i64 (k:Int),.slice Q nl q] 58 (0,0))∧W.heap[b4]?=some (.cells #[.int .i64 (im (c.rd ia)).kind,.int .i64 (im (c.rd ia)).n] 115 (0,0))∧W=w2.alloc (mvO (im (c.rd ia)))∧b4=w2.heap.size:=⟨_,_,bb2.out.alloc _,lt_some bx2.out,(Below.heap_alloc _ _ _ (lt_some bx2.out)).trans bx2.out,blk_new _ _ _,rfl,rfl⟩;obtain ⟨W,b4,B4,y1,g1,g2,gW,gb⟩:=hQ;rw [←gb,←gW])
   | (have hQ:∃W b4,Bl w W∧w.heap.size<b4∧W.heap[w.heap.size]?=some (.cells #[.int .i64 15,.int .i64 ia,.int .i64 ib,.int .i64 (cc:Int),.int .i64 (k:Int),.slice Q nl q] 58 (0,0))∧W.heap[b4]?=some (.cells #[.int .i64 (im (c.rd ia)).kind,.int .i64 (im (c.rd ia)).n] 115 (0,0))∧W=((w2.setCell ⟨w.heap.size+1,0,none⟩ (.int .i64 (im (c.rd ia)).kind)).setCell ⟨w.heap.size+1,1,none⟩ (.int .i64 (im (c.rd ia)).n))∧b4=w.heap.size+1:=⟨_,_,bl_two bb2.out (Nat.le_succ _) _ _,Nat.lt_succ_self _,set_two_far bx2.out (by omega) _ _,set_two q9.out,rfl,rfl⟩;obtain ⟨W,b4,B4,y1,g1,g2,gW,gb⟩:=hQ;rw [←gW,←gb])
  clear gW gb
  have H4:=hid (HH.out.bl B4)
  have x0:=hid H4.out.y.hb
  have x1:=hid (insC g1)
  have x3:=hid (c0_of g2)
  have x4:=hid (c1_of g2)
  replace B4:=hid B4
  replace g1:=hid g1
  replace g2:=hid g2
  refine wp_region_held_drew (S:=fun w'=>w'.cell? ⟨a.q,0,none⟩=some (.pointer (some ⟨g.hb,0,none⟩))∧w'.cell? ⟨w.heap.size,2,none⟩=some (.int .i64 ib)∧w'.cell? ⟨w.heap.size,3,none⟩=some (.int .i64 (cc:Int))∧w'.cell? ⟨w.heap.size,4,none⟩=some (.int .i64 (k:Int))∧w'.cell? ⟨b4,0,none⟩=some (.int .i64 (im (c.rd ia)).kind)∧w'.cell? ⟨b4,1,none⟩=some (.int .i64 (im (c.rd ia)).n)) (by kernel_rfl) ?_ (fun hHeld0=>?_)
  ·exact ⟨x0.out,x1.out.2.2.1,x1.out.2.2.2.1,x1.out.2.2.2.2.1,x3.out,x4.out⟩
  refine tk (i:=0) (d:=some 39) rfl rfl (by kernel_rfl) (fun _ _ _ h=>h) (by rfl) (by intro _ h;(try dsimp only at h);go_split_ands;go_simp<;>with_reducible rfl) hHeld0 ?_
  try simp only [aS,aN,aT,a0,a1]
  refine tk (i:=1) (d:=some 40) rfl rfl (by kernel_rfl) (fun _ _ _ h=>h) (by rfl) (by intro _ h;(try dsimp only at h);go_split_ands;go_simp<;>with_reducible rfl) hHeld0 ?_
  try simp only [aS,aN,aT,a0,a1]
  refine tk (i:=2) (d:=some 41) rfl rfl (by kernel_rfl) (fun _ _ _ h=>h) (by rfl) (by intro _ h;(try dsimp only at h);go_split_ands;go_simp<;>with_reducible rfl) hHeld0 ?_
  try simp only [aS,aN,aT,a0,a1]
  refine tk (i:=3) (d:=some 42) rfl rfl (by kernel_rfl) (fun _ _ _ h=>h) (by rfl) (by intro _ h;(try dsimp only at h);go_split_ands;go_simp<;>with_reducible rfl) hHeld0 ?_
  try simp only [aS,aN,aT,a0,a1]
  refine tk (i:=4) (d:=some 43) rfl rfl (by kernel_rfl) (fun _ _ _ h=>h) (by rfl) (by intro _ h;(try dsimp only at h);go_split_ands;go_simp<;>with_reducible rfl) hHeld0 ?_
  try simp only [aS,aN,aT,a0,a1]
  refine tk (i:=5) (d:=some 44) rfl rfl (by kernel_rfl) (fun _ _ _ h=>h) (by rfl) (by intro _ h;(try dsimp only at h);go_split_ands;go_simp<;>with_reducible rfl) hHeld0 ?_
  try simp only [aS,aN,aT,a0,a1]
  refine tk (i:=6) (d:=some 45) rfl rfl (by kernel_rfl) (fun _ _ _ h=>h) (by rfl) (by intro _ h;(try dsimp only at h);go_split_ands;go_simp<;>with_reducible rfl) hHeld0 ?_
  try simp only [aS,aN,aT,a0,a1]
  refine tk (i:=7) (d:=some 46) rfl rfl (by kernel_rfl) (fun _ _ _ h=>h) (by rfl) (by intro _ h;(try dsimp only at h);go_split_ands;go_simp<;>with_reducible rfl) hHeld0 ?_
  try simp only [aS,aN,aT,a0,a1]
  refine tk (i:=8) (d:=some 47) rfl rfl (by kernel_rfl) (fun _ _ _ h=>h) (by rfl) (by intro _ h;(try dsimp only at h);go_split_ands;go_simp<;>with_reducible rfl) hHeld0 ?_
  try simp only [aS,aN,aT,a0,a1]
  refine tk (i:=11) (d:=some 50) rfl rfl (by kernel_rfl) (fun _ _ _ h=>h) (by rfl) (by intro _ h;(try dsimp only at h);go_split_ands;go_simp<;>with_reducible rfl) hHeld0 ?_
  try simp only [aS,aN,aT,a0,a1]
  refine tk (i:=12) (d:=some 51) rfl rfl (by kernel_rfl) (fun _ _ _ h=>h) (by rfl) (by intro _ h;(try dsimp only at h);go_split_ands;go_simp<;>with_reducible rfl) hHeld0 ?_
  try simp only [aS,aN,aT,a0,a1]
  refine tk (i:=13) (d:=some 52) rfl rfl (by kernel_rfl) (fun _ _ _ h=>h) (by rfl) (by intro _ h;(try dsimp only at h);go_split_ands;go_simp<;>with_reducible rfl) hHeld0 ?_
  try simp only [aS,aN,aT,a0,a1]
  refine tk (i:=14) (d:=some 53) rfl rfl (by kernel_rfl) (fun _ _ _ h=>h) (by rfl) (by intro _ h;(try dsimp only at h);go_split_ands;go_simp<;>with_reducible rfl) hHeld0 ?_
  try simp only [aS,aN,aT,a0,a1]
  refine tk (i:=15) (d:=some 54) rfl rfl (by kernel_rfl) (fun _ _ _ h=>h) (by rfl) (by intro _ h;(try dsimp only at h);go_split_ands;go_simp<;>with_reducible rfl) hHeld0 ?_
  try simp only [aS,aN,aT,a0,a1]
  refine rd1 (i:=9) (by kernel_rfl) rfl fun K hK=>?_
  go_simp
  go_at_call 205
  refine (refOf_any (cc:Int) _).mono ?_
  rintro e w5 ⟨rfl,b5⟩
  have dm0:=hid (b5.cell hHeld0.1)
  have dm1:=hid (b5.cell hHeld0.2.1)
  have dm2:=hid (b5.cell hHeld0.2.2.1)
  have dm3:=hid (b5.cell hHeld0.2.2.2.1)
  have dm4:=hid (b5.cell hHeld0.2.2.2.2.1)
  have dm5:=hid (b5.cell hHeld0.2.2.2.2.2)
  replace b5:=hid b5
  go_wp2_with fail
  refine hK.out _ _ (⟨dm0.out,dm1.out,dm2.out,dm3.out,dm4.out,dm5.out⟩) (fun hHeld1=>?_)
  try simp only [aS,aN,aT,a0,a1]
  refine rd1 (i:=10) (by kernel_rfl) rfl fun K hK=>?_
  go_simp
  go_at_call 201
  refine (HT2.out _ (H4.out.bl ((Bl.refl W).drew.trans b5.out))).mono ?_
  rintro e w6 ⟨rfl,b6⟩
  have dn0:=hid (b6.cell hHeld1.1)
  have dn1:=hid (b6.cell hHeld1.2.1)
  have dn2:=hid (b6.cell hHeld1.2.2.1)
  have dn3:=hid (b6.cell hHeld1.2.2.2.1)
  have dn4:=hid (b6.cell hHeld1.2.2.2.2.1)
  have dn5:=hid (b6.cell hHeld1.2.2.2.2.2)
  replace b6:=hid b6
  go_wp2_with fail
  refine hK.out _ _ (⟨dn0.out,dn1.out,dn2.out,dn3.out,dn4.out,dn5.out⟩) (fun hHeld2=>?_)
  try simp only [aS,aN,aT,a0,a1]
  refine rd1 (i:=16) (by kernel_rfl) rfl fun K hK=>?_
  go_simp
  go_at_call 204
  refine (HP.out _ (H4.out.bl (((Bl.refl W).drew.trans b5.out).trans b6.out))).mono ?_
  rintro e w7 ⟨rfl,H7⟩
  exact ⟨rfl,HE.out _ H7⟩
 ·go_wp2_with fail
  refine hK.out _ _ (⟨Bl.cell ((Bl.refl _).alloc _) hHeld0.1,Bl.cell ((Bl.refl _).alloc _) hHeld0.2.1,Bl.cell ((Bl.refl _).alloc _) hHeld0.2.2.1,Bl.cell ((Bl.refl _).alloc _) hHeld0.2.2.2.1,Bl.cell ((Bl.refl _).alloc _) hHeld0.2.2.2.2.1,Bl.cell ((Bl.refl _).alloc _) hHeld0.2.2.2.2.2.1,Bl.cell ((Bl.refl _).alloc _) hHeld0.2.2.2.2.2.2.1,Bl.cell ((Bl.refl _).alloc _) hHeld0.2.2.2.2.2.2.2⟩) (fun hHeld4=>?_)
  try simp only [aS,aN,aT,a0,a1]
  refine rd1 (i:=19) (by kernel_rfl) rfl fun K hK=>?_
  go_simp
  go_at_call 201
  refine (HT1.out _ (HH.out.bl (by first|exact HB.out.drew|exact HB.out.drew.alloc _))).mono ?_
  rintro e w2 ⟨rfl,b2⟩
  have dk0:=hid (b2.cell hHeld4.1)
  have dk1:=hid (b2.cell hHeld4.2.1)
  have dk2:=hid (b2.cell hHeld4.2.2.1)
  have dk3:=hid (b2.cell hHeld4.2.2.2.1)
  have dk4:=hid (b2.cell hHeld4.2.2.2.2.1)
  have dk5:=hid (b2.cell hHeld4.2.2.2.2.2.1)
  have dk6:=hid (b2.cell hHeld4.2.2.2.2.2.2.1)
  have dk7:=hid (b2.cell hHeld4.2.2.2.2.2.2.2)
  replace b2:=hid b2
  have bb2:Hid (Bl w w2):=by first|exact HB.out.drew.trans b2.out|exact (HB.out.drew.alloc _).trans b2.out
  have bx2:=bl_blk b2.out (by first|exact HL0.out|exact (Below.heap_alloc _ _ _ (lt_some HL0.out)).trans HL0.out)
  have hsz:=b2.out.size
  try (have q9:=bl_blk b2.out (b:=w.heap.size+1) (two_lie w _ _ _ _).2;have p0:=c0_of q9;have p1:=c1_of q9;have pz:=free_blk q9;replace q9:=hid q9)
  replace bx2:=hid bx2
  go_wp2_with fail
  refine hK.out _ _ (⟨dk0.out,dk1.out,dk2.out,dk3.out,dk4.out,dk5.out,dk6.out,dk7.out⟩) (fun hHeld5=>?_)
  try simp only [aS,aN,aT,a0,a1]
  refine rd1 (i:=21) (by kernel_rfl) rfl fun K hK=>?_
  go_wp2_with fail
  refine hK.out _ _ (by first|exact ⟨Bl.cell ((Bl.refl _).alloc _) dk0.out,Bl.cell ((Bl.refl _).alloc _) dk1.out,Bl.cell ((Bl.refl _).alloc _) dk2.out,Bl.cell ((Bl.refl _).alloc _) dk3.out,Bl.cell ((Bl.refl _).alloc _) dk4.out,Bl.cell ((Bl.refl _).alloc _) dk5.out,Bl.cell ((Bl.refl _).alloc _) dk6.out,Bl.cell ((Bl.refl _).alloc _) dk7.out⟩|exact ⟨set2_cellD dk0.out (by omega),set2_cellD dk1.out (by omega),set2_cellD dk2.out (by omega),set2_cellD dk3.out (by omega),set2_cellD dk4.out (by omega),set2_cellD dk5.out (by omega),set2_cellD dk6.out (by omega),set2_cellD dk7.out (by omega)⟩) (fun hHeld6=>?_)
  try simp only [aS,aN,aT,a0,a1]
  refine wpAnyH_done (by kernel_rfl) ?_ _
  go_wp2
  first
   | (have hQ:∃W b4,Bl w W∧w.heap.size<b4∧W.heap[w.heap.size]?=some (.cells #[.int .i64 15,.int .i64 ia,.int .i64 ib,.int .i64 (cc:Int),.int .i64 (k:Int),.slice Q nl q] 58 (0,0))∧W.heap[b4]?=some (.cells #[.int .i64 (im (c.rd ia)).kind,.int .i64 (im (c.rd ia)).n] 115 (0,0))∧W=w2.alloc (mvO (im (c.rd ia)))∧b4=w2.heap.size:=⟨_,_,bb2.out.alloc _,lt_some bx2.out,(Below.heap_alloc _ _ _ (lt_some bx2.out)).trans bx2.out,blk_new _ _ _,rfl,rfl⟩;obtain ⟨W,b4,B4,y1,g1,g2,gW,gb⟩:=hQ;rw [←gb,←gW])
   | (have hQ:∃W b4,Bl w W∧w.heap.size<b4∧W.heap[w.heap.size]?=some (.cells #[.int .i64 15,.int .i64 ia,.int .i64 ib,.int .i64 (cc:Int),.int .i64 (k:Int),.slice Q nl q] 58 (0,0))∧W.heap[b4]?=some (.cells #[.int .i64 (im (c.rd ia)).kind,.int .i64 (im (c.rd ia)).n] 115 (0,0))∧W=((w2.setCell ⟨w.heap.size+1,0,none⟩ (.int .i64 (im (c.rd ia)).kind)).setCell ⟨w.heap.size+1,1,none⟩ (.int .i64 (im (c.rd ia)).n))∧b4=w.heap.size+1:=⟨_,_,bl_two bb2.out (Nat.le_succ _) _ _,Nat.lt_succ_self _,set_two_far bx2.out (by omega) _ _,set_two q9.out,rfl,rfl⟩;obtain ⟨W,b4,B4,y1,g1,g2,gW,gb⟩:=hQ;rw [←gW,←gb])
  clear gW gb
  have H4:=hid (HH.out.bl B4)
  have x0:=hid H4.out.y.hb
  have x1:=hid (insC g1)
  have x3:=hid (c0_of g2)
  have x4:=hid (c1_of g2)
  replace B4:=hid B4
  replace g1:=hid g1
  replace g2:=hid g2
  refine wp_region_held_drew (S:=fun w'=>w'.cell? ⟨a.q,0,none⟩=some (.pointer (some ⟨g.hb,0,none⟩))∧w'.cell? ⟨w.heap.size,2,none⟩=some (.int .i64 ib)∧w'.cell? ⟨w.heap.size,3,none⟩=some (.int .i64 (cc:Int))∧w'.cell? ⟨w.heap.size,4,none⟩=some (.int .i64 (k:Int))∧w'.cell? ⟨b4,0,none⟩=some (.int .i64 (im (c.rd ia)).kind)∧w'.cell? ⟨b4,1,none⟩=some (.int .i64 (im (c.rd ia)).n)) (by kernel_rfl) ?_ (fun hHeld0=>?_)
  ·exact ⟨x0.out,x1.out.2.2.1,x1.out.2.2.2.1,x1.out.2.2.2.2.1,x3.out,x4.out⟩
  refine tk (i:=0) (d:=some 39) rfl rfl (by kernel_rfl) (fun _ _ _ h=>h) (by rfl) (by intro _ h;(try dsimp only at h);go_split_ands;go_simp<;>with_reducible rfl) hHeld0 ?_
  try simp only [aS,aN,aT,a0,a1]
  refine tk (i:=1) (d:=some 40) rfl rfl (by kernel_rfl) (fun _ _ _ h=>h) (by rfl) (by intro _ h;(try dsimp only at h);go_split_ands;go_simp<;>with_reducible rfl) hHeld0 ?_
  try simp only [aS,aN,aT,a0,a1]
  refine tk (i:=2) (d:=some 41) rfl rfl (by kernel_rfl) (fun _ _ _ h=>h) (by rfl) (by intro _ h;(try dsimp only at h);go_split_ands;go_simp<;>with_reducible rfl) hHeld0 ?_
  try simp only [aS,aN,aT,a0,a1]
  refine tk (i:=3) (d:=some 42) rfl rfl (by kernel_rfl) (fun _ _ _ h=>h) (by rfl) (by intro _ h;(try dsimp only at h);go_split_ands;go_simp<;>with_reducible rfl) hHeld0 ?_
  try simp only [aS,aN,aT,a0,a1]
  refine tk (i:=4) (d:=some 43) rfl rfl (by kernel_rfl) (fun _ _ _ h=>h) (by rfl) (by intro _ h;(try dsimp only at h);go_split_ands;go_simp<;>with_reducible rfl) hHeld0 ?_
  try simp only [aS,aN,aT,a0,a1]
  refine tk (i:=5) (d:=some 44) rfl rfl (by kernel_rfl) (fun _ _ _ h=>h) (by rfl) (by intro _ h;(try dsimp only at h);go_split_ands;go_simp<;>with_reducible rfl) hHeld0 ?_
  try simp only [aS,aN,aT,a0,a1]
  refine tk (i:=6) (d:=some 45) rfl rfl (by kernel_rfl) (fun _ _ _ h=>h) (by rfl) (by intro _ h;(try dsimp only at h);go_split_ands;go_simp<;>with_reducible rfl) hHeld0 ?_
  try simp only [aS,aN,aT,a0,a1]
  refine tk (i:=7) (d:=some 46) rfl rfl (by kernel_rfl) (fun _ _ _ h=>h) (by rfl) (by intro _ h;(try dsimp only at h);go_split_ands;go_simp<;>with_reducible rfl) hHeld0 ?_
  try simp only [aS,aN,aT,a0,a1]
  refine tk (i:=8) (d:=some 47) rfl rfl (by kernel_rfl) (fun _ _ _ h=>h) (by rfl) (by intro _ h;(try dsimp only at h);go_split_ands;go_simp<;>with_reducible rfl) hHeld0 ?_
  try simp only [aS,aN,aT,a0,a1]
  refine tk (i:=11) (d:=some 50) rfl rfl (by kernel_rfl) (fun _ _ _ h=>h) (by rfl) (by intro _ h;(try dsimp only at h);go_split_ands;go_simp<;>with_reducible rfl) hHeld0 ?_
  try simp only [aS,aN,aT,a0,a1]
  refine tk (i:=12) (d:=some 51) rfl rfl (by kernel_rfl) (fun _ _ _ h=>h) (by rfl) (by intro _ h;(try dsimp only at h);go_split_ands;go_simp<;>with_reducible rfl) hHeld0 ?_
  try simp only [aS,aN,aT,a0,a1]
  refine tk (i:=13) (d:=some 52) rfl rfl (by kernel_rfl) (fun _ _ _ h=>h) (by rfl) (by intro _ h;(try dsimp only at h);go_split_ands;go_simp<;>with_reducible rfl) hHeld0 ?_
  try simp only [aS,aN,aT,a0,a1]
  refine tk (i:=14) (d:=some 53) rfl rfl (by kernel_rfl) (fun _ _ _ h=>h) (by rfl) (by intro _ h;(try dsimp only at h);go_split_ands;go_simp<;>with_reducible rfl) hHeld0 ?_
  try simp only [aS,aN,aT,a0,a1]
  refine tk (i:=15) (d:=some 54) rfl rfl (by kernel_rfl) (fun _ _ _ h=>h) (by rfl) (by intro _ h;(try dsimp only at h);go_split_ands;go_simp<;>with_reducible rfl) hHeld0 ?_
  try simp only [aS,aN,aT,a0,a1]
  refine rd1 (i:=9) (by kernel_rfl) rfl fun K hK=>?_
  go_simp
  go_at_call 205
  refine (refOf_any (cc:Int) _).mono ?_
  rintro e w5 ⟨rfl,b5⟩
  have dm0:=hid (b5.cell hHeld0.1)
  have dm1:=hid (b5.cell hHeld0.2.1)
  have dm2:=hid (b5.cell hHeld0.2.2.1)
  have dm3:=hid (b5.cell hHeld0.2.2.2.1)
  have dm4:=hid (b5.cell hHeld0.2.2.2.2.1)
  have dm5:=hid (b5.cell hHeld0.2.2.2.2.2)
  replace b5:=hid b5
  go_wp2_with fail
  refine hK.out _ _ (⟨dm0.out,dm1.out,dm2.out,dm3.out,dm4.out,dm5.out⟩) (fun hHeld1=>?_)
  try simp only [aS,aN,aT,a0,a1]
  refine rd1 (i:=10) (by kernel_rfl) rfl fun K hK=>?_
  go_simp
  go_at_call 201
  refine (HT2.out _ (H4.out.bl ((Bl.refl W).drew.trans b5.out))).mono ?_
  rintro e w6 ⟨rfl,b6⟩
  have dn0:=hid (b6.cell hHeld1.1)
  have dn1:=hid (b6.cell hHeld1.2.1)
  have dn2:=hid (b6.cell hHeld1.2.2.1)
  have dn3:=hid (b6.cell hHeld1.2.2.2.1)
  have dn4:=hid (b6.cell hHeld1.2.2.2.2.1)
  have dn5:=hid (b6.cell hHeld1.2.2.2.2.2)
  replace b6:=hid b6
  go_wp2_with fail
  refine hK.out _ _ (⟨dn0.out,dn1.out,dn2.out,dn3.out,dn4.out,dn5.out⟩) (fun hHeld2=>?_)
  try simp only [aS,aN,aT,a0,a1]
  refine rd1 (i:=16) (by kernel_rfl) rfl fun K hK=>?_
  go_simp
  go_at_call 204
  refine (HP.out _ (H4.out.bl (((Bl.refl W).drew.trans b5.out).trans b6.out))).mono ?_
  rintro e w7 ⟨rfl,H7⟩
  exact ⟨rfl,HE.out _ H7⟩
theorem work_op15d (X:Nat→Prop) (wx w0:World) (g:Mg) (h:Hp) (qs:List Qb) (a:Mc) (c:Cal) (ia ib ic ii:Int) (args:List Int) (Q:Option Addr) (nl q:Nat) (w:World) (H:RX 1 X wx w0 g w h qs a c) (hs:h.stops=false) (ha:0≤ia∧ia<c.locs.length) (hb:0≤ib∧ib<c.locs.length) (F:Fix w0 g h) (hob:h.objs.length≤100) (hva:(c.rd ia).kind=3→-1≤(c.rd ia).n∧(c.rd ia).n<h.objs.length) (hvb:(c.rd ib).kind=3→-1≤(c.rd ib).n∧(c.rd ib).n<h.objs.length) (hfl:0≤ic∧ic<h.file.classes.length∧0≤ii∧ii<(nth cl0 h.file.classes ic.toNat).fields.length) (h2:(fieldT h.file.classes ic ii).kind=2→ia+1<c.locs.length) (hof:h.of (c.rd ia) (fieldT h.file.classes ic ii)=true) (hou:h.of (c.rd ib) ⟨3,ic⟩=true) (o j:Nat) (huo:(c.rd ib).n=o) (hol:o<h.objs.length) (hj:j<(nth ob0 h.objs o).held.length) (hjc:(nth hel0 (nth ob0 h.objs o).held j).cls=ic) (hjk:(nth hel0 (nth ob0 h.objs o).held j).fld=ii) (hsp:h.sh.steps≤100000) :
  Calls Tryz.prog 142 #[.pointer (some ⟨a.q,0,none⟩),.agg #[.int .i64 15,.int .i64 ia,.int .i64 ib,.int .i64 ic,.int .i64 ii,.slice Q nl q]] w fun e w'=>DidQ X wx w0 g qs a c ⟨h.setV o j (c.rd ia),c.clr,c.pc+1⟩ e w':=by
 obtain ⟨cc,rfl⟩:∃cc:Nat,ic=cc:=⟨ic.toNat,by omega⟩
 obtain ⟨k,rfl⟩:∃k:Nat,ii=k:=⟨ii.toNat,by omega⟩
 rw [Int.toNat_natCast] at hfl
 have hc:cc<h.file.classes.length:=by omega
 have hkf:k<(nth cl0 h.file.classes cc).fields.length:=by omega
 have ho:=(stops_not hs).1
 have HH:=hid H
 have HS:=hid hs
 have hq:=H.qlt
 have HB:Hid (Bl w (w.alloc (.cells #[.int .i64 15,.int .i64 ia,.int .i64 ib,.int .i64 (cc:Int),.int .i64 (k:Int),.slice Q nl q] 58))):=(Bl.refl w).alloc _
 have HL0:=hid (blk_new w #[.int .i64 15,.int .i64 ia,.int .i64 ib,.int .i64 (cc:Int),.int .i64 (k:Int),.slice Q nl q] 58)
 have z0:=hid ((H.y.bl HB.out).hb)
 have z1:=hid (insC HL0.out)
 obtain ⟨fb,fo,FB,ff,uc,hA,y0,m1,m2,y1,y2⟩:=fld_cells F.cls hc hkf
 have HBW:Bl w0 w:=by
  obtain ⟨vc,vo,vx,vs,l,H⟩:=H
  exact H.rh.bl
 have z3:Hid ((w.alloc (.cells #[.int .i64 15,.int .i64 ia,.int .i64 ib,.int .i64 (cc:Int),.int .i64 (k:Int),.slice Q nl q] 58)).cell? ⟨g.hb,0,none⟩=some (.slice (some ⟨fb,fo,none⟩) h.file.classes.length g.a)):=by
  obtain ⟨vc,vo,vx,vs,l,H⟩:=H
  rw [←hA]
  exact Bl.cell HB.out H.rh.heapCells.1
 have hhb:g.hb<w.heap.size:=by
  obtain ⟨vc,vo,vx,vs,l,H⟩:=H
  exact lt_some H.rh.hp
 have hf1:=cell_lt (Bl.cell HBW y0)
 have hf2:=cell_lt (Bl.cell HBW y1)
 have z4:=hid (Bl.cell HB.out (Bl.cell HBW y0))
 have z5:=hid (Bl.cell HB.out (Bl.cell HBW y1))
 have z6:=hid (Bl.cell HB.out (Bl.cell HBW y2))
 have hfk:=field_kind F.may hc hkf
 obtain ⟨n1,n2,n3⟩:=may_six F.may hc
 have hvk:(c.rd ia).kind=(fieldT h.file.classes (cc:Int) (k:Int)).kind:=by
  unfold Hp.of at hof
  rw [Bool.and_eq_true] at hof
  exact of_decide_eq_true hof.1
 rw [fieldT_nat] at hfk h2 hof
 obtain ⟨t,ht⟩:∃t,nth ty0 (nth cl0 h.file.classes cc).fields k=t:=⟨_,rfl⟩
 rw [ht] at z5 z6 y1 y2 hfk h2 hof
 have hc0:(0:Int)≤(cc:Int):=by omega
 have hc1:(cc:Int)<(h.file.classes.length:Int):=by omega
 have hk0:(0:Int)≤(k:Int):=by omega
 have hk1:(k:Int)<((nth cl0 h.file.classes cc).fields.length:Int):=by omega
 have HT1:Hid (∀w',RX 1 X wx w0 g w' h qs a c→Calls Tryz.prog 201 #[.pointer (some ⟨a.q,0,none⟩),.int .i64 ia,tyMV t] w' fun e w2=>e=.returned (mvV (im (c.rd ia)))∧Bl w' w2):=fun w' H=>rdT_yes 1 X wx w0 g h qs a c ia t w' H F hob ha hfk h2 hva hof
 have TK:(1:Int)≤(⟨3,(cc:Int)⟩:Ty).kind∧(⟨3,(cc:Int)⟩:Ty).kind≤3:=⟨by show (1:Int)≤3;decide,by show (3:Int)≤3;decide⟩
 have T2:(⟨3,(cc:Int)⟩:Ty).kind=2→ib+1<c.locs.length:=fun x=>by have:(3:Int)=2:=x;omega
 have e1:(c.rd ib).kind=3:=of_ref hou
 have hv3:=hvb e1
 have HT2:Hid (∀w',RX 1 X wx w0 g w' h qs a c→Calls Tryz.prog 201 #[.pointer (some ⟨a.q,0,none⟩),.int .i64 ib,tyMV ⟨3,(cc:Int)⟩] w' fun e w2=>e=.returned (mvV (im (c.rd ib)))∧Bl w' w2):=fun w' H=>rdT_yes 1 X wx w0 g h qs a c ib ⟨3,(cc:Int)⟩ w' H F hob hb TK T2 hvb hou
 have him:im (c.rd ib)=⟨3,(o:Int)+1⟩:=by rw [im_ref e1,huo]
 have HP:Hid (∀X wx w',RX 1 X wx w0 g w' h qs a c→Calls Tryz.prog 204 #[.pointer (some ⟨g.hb,0,none⟩),mvV (im (c.rd ib)),.int .i64 (cc:Int),.int .i64 (k:Int),mvV (im (c.rd ia))] w' fun e w2=>e=.returned (.tuple #[])∧RX 0 X wx w0 g w2 (h.setV o j (c.rd ia)) qs a c):=fun X wx w' H=>him.symm▸mputF_obj X wx w0 g h qs a c o j cc k (c.rd ia) w' H hol hob hsp hj hjc hjk (by omega) (by omega) hvk
 have hs2:(h.setV o j (c.rd ia)).stops=false:=hs
 have HE:Hid (∀w',RX 0 X wx w0 g w' (h.setV o j (c.rd ia)) qs a c→DidQ X wx w0 g qs a c ⟨h.setV o j (c.rd ia),c.clr,c.pc+1⟩ (.returned (.tuple #[])) w'):=fun w' H=>did_go hs2 H
 generalize im (c.rd ib)=UI at HT2 HP
 generalize h.setV o j (c.rd ia)=h' at HP HE
 clear H hs F hfl hA y0 y1 y2 m1 m2 HBW hfk h2 ht ha hb hob hva hvb hc hkf hof hou TK T2 e1 hv3 hvk him huo hol hj hjc hjk hsp n1 n2 n3 hs2
 go_enter Tryz.func142,Tryz.ntmps142
 go_wp2
 refine wp_region_held_drew (S:=fun w'=>w'.cell? ⟨a.q,0,none⟩=some (.pointer (some ⟨g.hb,0,none⟩))∧w'.cell? ⟨w.heap.size,1,none⟩=some (.int .i64 ia)∧w'.cell? ⟨w.heap.size,3,none⟩=some (.int .i64 (cc:Int))∧w'.cell? ⟨w.heap.size,4,none⟩=some (.int .i64 (k:Int))∧w'.cell? ⟨g.hb,0,none⟩=some (.slice (some ⟨fb,fo,none⟩) h.file.classes.length g.a)∧w'.cell? ⟨fb,fo+cc*2+1,none⟩=some (.slice (some ⟨FB,ff,none⟩) (nth cl0 h.file.classes cc).fields.length uc)∧w'.cell? ⟨FB,ff+k*2,none⟩=some (.int .i64 t.kind)∧w'.cell? ⟨FB,ff+k*2+1,none⟩=some (.int .i64 t.cls)) (by kernel_rfl) ?_ (fun hHeld0=>?_)
 ·exact ⟨z0.out,z1.out.2.1,z1.out.2.2.2.1,z1.out.2.2.2.2.1,z3.out,z4.out,z5.out,z6.out⟩
 refine tk (i:=0) (d:=some 19) rfl rfl (by kernel_rfl) (fun _ _ _ h=>h) (by rfl) (by intro _ h;(try dsimp only at h);go_split_ands;go_simp<;>with_reducible rfl) hHeld0 ?_
 try simp only [aS,aN,aT,a0,a1]
 refine tk (i:=1) (d:=some 20) rfl rfl (by kernel_rfl) (fun _ _ _ h=>h) (by rfl) (by intro _ h;(try dsimp only at h);go_split_ands;go_simp<;>with_reducible rfl) hHeld0 ?_
 try simp only [aS,aN,aT,a0,a1]
 refine tk (i:=2) (d:=some 21) rfl rfl (by kernel_rfl) (fun _ _ _ h=>h) (by rfl) (by intro _ h;(try dsimp only at h);go_split_ands;go_simp<;>with_reducible rfl) hHeld0 ?_
 try simp only [aS,aN,aT,a0,a1]
 refine tk (i:=3) (d:=some 22) rfl rfl (by kernel_rfl) (fun _ _ _ h=>h) (by rfl) (by intro _ h;(try dsimp only at h);go_split_ands;go_simp<;>with_reducible rfl) hHeld0 ?_
 try simp only [aS,aN,aT,a0,a1]
 refine tk (i:=4) (d:=some 23) rfl rfl (by kernel_rfl) (fun _ _ _ h=>h) (by rfl) (by intro _ h;(try dsimp only at h);go_split_ands;go_simp<;>with_reducible rfl) hHeld0 ?_
 try simp only [aS,aN,aT,a0,a1]
 refine tk (i:=5) (d:=some 24) rfl rfl (by kernel_rfl) (fun _ _ _ h=>h) (by rfl) (by intro _ h;(try dsimp only at h);go_split_ands;go_simp<;>with_reducible rfl) hHeld0 ?_
 try simp only [aS,aN,aT,a0,a1]
 refine tk (i:=6) (d:=some 25) rfl rfl (by kernel_rfl) (fun _ _ _ h=>h) (by rfl) (by intro _ h;(try dsimp only at h);go_split_ands;go_simp<;>with_reducible rfl) hHeld0 ?_
 try simp only [aS,aN,aT,a0,a1]
 refine tk (i:=7) (d:=some 26) rfl rfl (by kernel_rfl) (fun _ _ _ h=>h) (by rfl) (by intro _ h;(try dsimp only at h);go_split_ands;go_simp<;>with_reducible rfl) hHeld0 ?_
 try simp only [aS,aN,aT,a0,a1]
 refine tk (i:=8) (d:=some 27) rfl rfl (by kernel_rfl) (fun _ _ _ h=>h) (by rfl) (by intro _ h;(try dsimp only at h);go_split_ands;go_simp<;>with_reducible rfl) hHeld0 ?_
 try simp only [aS,aN,aT,a0,a1]
 refine tk (i:=9) (d:=some 28) rfl rfl (by kernel_rfl) (fun _ _ _ h=>h) (by rfl) (by intro _ h;(try dsimp only at h);go_split_ands;go_simp<;>with_reducible rfl) hHeld0 ?_
 try simp only [aS,aN,aT,a0,a1]
 refine tk (i:=10) (d:=some 29) rfl rfl (by kernel_rfl) (fun _ _ _ h=>h) (by rfl) (by intro _ h;(try dsimp only at h);go_split_ands;go_simp<;>with_reducible rfl) hHeld0 ?_
 try simp only [aS,aN,aT,a0,a1]
 refine tk (i:=11) (d:=some 30) rfl rfl (by kernel_rfl) (fun _ _ _ h=>h) (by rfl) (by intro _ h;(try dsimp only at h);go_split_ands;go_simp<;>with_reducible rfl) hHeld0 ?_
 try simp only [aS,aN,aT,a0,a1]
 refine tk (i:=12) (d:=some 31) rfl rfl (by kernel_rfl) (fun _ _ _ h=>h) (by rfl) (by intro _ h;(try dsimp only at h);go_split_ands;go_simp<;>with_reducible rfl) hHeld0 ?_
 try simp only [aS,aN,aT,a0,a1]
 refine tk (i:=13) (d:=some 32) rfl rfl (by kernel_rfl) (fun _ _ _ h=>h) (by rfl) (by intro _ h;(try dsimp only at h);go_split_ands;go_simp<;>with_reducible rfl) hHeld0 ?_
 try simp only [aS,aN,aT,a0,a1]
 refine tk (i:=14) (d:=some 33) rfl rfl (by kernel_rfl) (fun _ _ _ h=>h) (by rfl) (by intro _ h;(try dsimp only at h);go_split_ands;go_simp<;>with_reducible rfl) hHeld0 ?_
 try simp only [aS,aN,aT,a0,a1]
 refine tk (i:=15) (d:=some 34) rfl rfl (by kernel_rfl) (fun _ _ _ h=>h) (by rfl) (by intro _ h;(try dsimp only at h);go_split_ands;go_simp<;>with_reducible rfl) hHeld0 ?_
 try simp only [aS,aN,aT,a0,a1]
 refine tk (i:=16) (d:=some 35) rfl rfl (by kernel_rfl) (fun _ _ _ h=>h) (by rfl) (by intro _ h;(try dsimp only at h);go_split_ands;go_simp<;>with_reducible rfl) hHeld0 ?_
 try simp only [aS,aN,aT,a0,a1]
 refine tk (i:=17) (d:=some 36) rfl rfl (by kernel_rfl) (fun _ _ _ h=>h) (by rfl) (by intro _ h;(try dsimp only at h);go_split_ands;go_simp<;>with_reducible rfl) hHeld0 ?_
 try simp only [aS,aN,aT,a0,a1]
 refine tk (i:=18) (d:=some 37) rfl rfl (by kernel_rfl) (fun _ _ _ h=>h) (by rfl) (by intro _ h;(try dsimp only at h);go_split_ands;go_simp<;>with_reducible rfl) hHeld0 ?_
 try simp only [aS,aN,aT,a0,a1]
 refine wpAnyH_ready (rs:=[19,20]) (by kernel_rfl) (by simp) ?_
 refine AllReadyH.cons rfl (fun K hK=>?_) (AllReadyH.cons rfl (fun K hK=>?_) (AllReadyH.nil))
 ·go_simp
  go_at_call 201
  refine (HT1.out _ (HH.out.bl (by first|exact HB.out.drew|exact HB.out.drew.alloc _))).mono ?_
  rintro e w2 ⟨rfl,b2⟩
  have dk0:=hid (b2.cell hHeld0.1)
  have dk1:=hid (b2.cell hHeld0.2.1)
  have dk2:=hid (b2.cell hHeld0.2.2.1)
  have dk3:=hid (b2.cell hHeld0.2.2.2.1)
  have dk4:=hid (b2.cell hHeld0.2.2.2.2.1)
  have dk5:=hid (b2.cell hHeld0.2.2.2.2.2.1)
  have dk6:=hid (b2.cell hHeld0.2.2.2.2.2.2.1)
  have dk7:=hid (b2.cell hHeld0.2.2.2.2.2.2.2)
  replace b2:=hid b2
  have bb2:Hid (Bl w w2):=by first|exact HB.out.drew.trans b2.out|exact (HB.out.drew.alloc _).trans b2.out
  have bx2:=bl_blk b2.out (by first|exact HL0.out|exact (Below.heap_alloc _ _ _ (lt_some HL0.out)).trans HL0.out)
  have hsz:=b2.out.size
  try (have q9:=bl_blk b2.out (b:=w.heap.size+1) (two_lie w _ _ _ _).2;have p0:=c0_of q9;have p1:=c1_of q9;have pz:=free_blk q9;replace q9:=hid q9)
  replace bx2:=hid bx2
  go_wp2_with fail
  refine hK.out _ _ (⟨dk0.out,dk1.out,dk2.out,dk3.out,dk4.out,dk5.out,dk6.out,dk7.out⟩) (fun hHeld1=>?_)
  try simp only [aS,aN,aT,a0,a1]
  refine rd1 (i:=20) (by kernel_rfl) rfl fun K hK=>?_
  go_wp2_with fail
  refine hK.out _ _ (⟨Bl.cell ((Bl.refl _).alloc _) hHeld1.1,Bl.cell ((Bl.refl _).alloc _) hHeld1.2.1,Bl.cell ((Bl.refl _).alloc _) hHeld1.2.2.1,Bl.cell ((Bl.refl _).alloc _) hHeld1.2.2.2.1,Bl.cell ((Bl.refl _).alloc _) hHeld1.2.2.2.2.1,Bl.cell ((Bl.refl _).alloc _) hHeld1.2.2.2.2.2.1,Bl.cell ((Bl.refl _).alloc _) hHeld1.2.2.2.2.2.2.1,Bl.cell ((Bl.refl _).alloc _) hHeld1.2.2.2.2.2.2.2⟩) (fun hHeld2=>?_)
  try simp only [aS,aN,aT,a0,a1]
  refine rd1 (i:=21) (by kernel_rfl) rfl fun K hK=>?_
  go_wp2_with fail
  refine hK.out _ _ (by first|exact ⟨Bl.cell ((Bl.refl _).alloc _) dk0.out,Bl.cell ((Bl.refl _).alloc _) dk1.out,Bl.cell ((Bl.refl _).alloc _) dk2.out,Bl.cell ((Bl.refl _).alloc _) dk3.out,Bl.cell ((Bl.refl _).alloc _) dk4.out,Bl.cell ((Bl.refl _).alloc _) dk5.out,Bl.cell ((Bl.refl _).alloc _) dk6.out,Bl.cell ((Bl.refl _).alloc _) dk7.out⟩|exact ⟨set2_cellD dk0.out (by omega),set2_cellD dk1.out (by omega),set2_cellD dk2.out (by omega),set2_cellD dk3.out (by omega),set2_cellD dk4.out (by omega),set2_cellD dk5.out (by omega),set2_cellD dk6.out (by omega),set2_cellD dk7.out (by omega)⟩) (fun hHeld3=>?_)
  try simp only [aS,aN,aT,a0,a1]
  refine wpAnyH_done (by kernel_rfl) ?_ _
  go_wp2
  first
   | (have hQ:∃W b4,Bl w W∧w.heap.size<b4∧W.heap[w.heap.size]?=some (.cells #[.int .i64 15,.int .i64 ia,.int .i64 ib,.int .i64 (cc:Int),.int .i64 (k:Int),.slice Q nl q] 58 (0,0))∧W.heap[b4]?=some (.cells #[.int .i64 (im (c.rd ia)).kind,.int .i64 (im (c.rd ia)).n] 115 (0,0))∧W=w2.alloc (mvO (im (c.rd ia)))∧b4=w2.heap.size:=⟨_,_,bb2.out.alloc _,lt_some bx2.out,(Below.heap_alloc _ _ _ (lt_some bx2.out)).trans bx2.out,blk_new _ _ _,rfl,rfl⟩;obtain ⟨W,b4,B4,y1,g1,g2,gW,gb⟩:=hQ;rw [←gb,←gW])
   | (have hQ:∃W b4,Bl w W∧w.heap.size<b4∧W.heap[w.heap.size]?=some (.cells #[.int .i64 15,.int .i64 ia,.int .i64 ib,.int .i64 (cc:Int),.int .i64 (k:Int),.slice Q nl q] 58 (0,0))∧W.heap[b4]?=some (.cells #[.int .i64 (im (c.rd ia)).kind,.int .i64 (im (c.rd ia)).n] 115 (0,0))∧W=((w2.setCell ⟨w.heap.size+1,0,none⟩ (.int .i64 (im (c.rd ia)).kind)).setCell ⟨w.heap.size+1,1,none⟩ (.int .i64 (im (c.rd ia)).n))∧b4=w.heap.size+1:=⟨_,_,bl_two bb2.out (Nat.le_succ _) _ _,Nat.lt_succ_self _,set_two_far bx2.out (by omega) _ _,set_two q9.out,rfl,rfl⟩;obtain ⟨W,b4,B4,y1,g1,g2,gW,gb⟩:=hQ;rw [←gW,←gb])
  clear gW gb
  have H4:=hid (HH.out.bl B4)
  have x0:=hid H4.out.y.hb
  have x1:=hid (insC g1)
  have x3:=hid (c0_of g2)
  have x4:=hid (c1_of g2)
  replace B4:=hid B4
  replace g1:=hid g1
  replace g2:=hid g2
  refine wp_region_held_drew (S:=fun w'=>w'.cell? ⟨a.q,0,none⟩=some (.pointer (some ⟨g.hb,0,none⟩))∧w'.cell? ⟨w.heap.size,2,none⟩=some (.int .i64 ib)∧w'.cell? ⟨w.heap.size,3,none⟩=some (.int .i64 (cc:Int))∧w'.cell? ⟨w.heap.size,4,none⟩=some (.int .i64 (k:Int))∧w'.cell? ⟨b4,0,none⟩=some (.int .i64 (im (c.rd ia)).kind)∧w'.cell? ⟨b4,1,none⟩=some (.int .i64 (im (c.rd ia)).n)) (by kernel_rfl) ?_ (fun hHeld0=>?_)
  ·exact ⟨x0.out,x1.out.2.2.1,x1.out.2.2.2.1,x1.out.2.2.2.2.1,x3.out,x4.out⟩
  refine tk (i:=0) (d:=some 39) rfl rfl (by kernel_rfl) (fun _ _ _ h=>h) (by rfl) (by intro _ h;(try dsimp only at h);go_split_ands;go_simp<;>with_reducible rfl) hHeld0 ?_
  try simp only [aS,aN,aT,a0,a1]
  refine tk (i:=1) (d:=some 40) rfl rfl (by kernel_rfl) (fun _ _ _ h=>h) (by rfl) (by intro _ h;(try dsimp only at h);go_split_ands;go_simp<;>with_reducible rfl) hHeld0 ?_
  try simp only [aS,aN,aT,a0,a1]
  refine tk (i:=2) (d:=some 41) rfl rfl (by kernel_rfl) (fun _ _ _ h=>h) (by rfl) (by intro _ h;(try dsimp only at h);go_split_ands;go_simp<;>with_reducible rfl) hHeld0 ?_
  try simp only [aS,aN,aT,a0,a1]
  refine tk (i:=3) (d:=some 42) rfl rfl (by kernel_rfl) (fun _ _ _ h=>h) (by rfl) (by intro _ h;(try dsimp only at h);go_split_ands;go_simp<;>with_reducible rfl) hHeld0 ?_
  try simp only [aS,aN,aT,a0,a1]
  refine tk (i:=4) (d:=some 43) rfl rfl (by kernel_rfl) (fun _ _ _ h=>h) (by rfl) (by intro _ h;(try dsimp only at h);go_split_ands;go_simp<;>with_reducible rfl) hHeld0 ?_
  try simp only [aS,aN,aT,a0,a1]
  refine tk (i:=5) (d:=some 44) rfl rfl (by kernel_rfl) (fun _ _ _ h=>h) (by rfl) (by intro _ h;(try dsimp only at h);go_split_ands;go_simp<;>with_reducible rfl) hHeld0 ?_
  try simp only [aS,aN,aT,a0,a1]
  refine tk (i:=6) (d:=some 45) rfl rfl (by kernel_rfl) (fun _ _ _ h=>h) (by rfl) (by intro _ h;(try dsimp only at h);go_split_ands;go_simp<;>with_reducible rfl) hHeld0 ?_
  try simp only [aS,aN,aT,a0,a1]
  refine tk (i:=7) (d:=some 46) rfl rfl (by kernel_rfl) (fun _ _ _ h=>h) (by rfl) (by intro _ h;(try dsimp only at h);go_split_ands;go_simp<;>with_reducible rfl) hHeld0 ?_
  try simp only [aS,aN,aT,a0,a1]
  refine tk (i:=8) (d:=some 47) rfl rfl (by kernel_rfl) (fun _ _ _ h=>h) (by rfl) (by intro _ h;(try dsimp only at h);go_split_ands;go_simp<;>with_reducible rfl) hHeld0 ?_
  try simp only [aS,aN,aT,a0,a1]
  refine tk (i:=11) (d:=some 50) rfl rfl (by kernel_rfl) (fun _ _ _ h=>h) (by rfl) (by intro _ h;(try dsimp only at h);go_split_ands;go_simp<;>with_reducible rfl) hHeld0 ?_
  try simp only [aS,aN,aT,a0,a1]
  refine tk (i:=12) (d:=some 51) rfl rfl (by kernel_rfl) (fun _ _ _ h=>h) (by rfl) (by intro _ h;(try dsimp only at h);go_split_ands;go_simp<;>with_reducible rfl) hHeld0 ?_
  try simp only [aS,aN,aT,a0,a1]
  refine tk (i:=13) (d:=some 52) rfl rfl (by kernel_rfl) (fun _ _ _ h=>h) (by rfl) (by intro _ h;(try dsimp only at h);go_split_ands;go_simp<;>with_reducible rfl) hHeld0 ?_
  try simp only [aS,aN,aT,a0,a1]
  refine tk (i:=14) (d:=some 53) rfl rfl (by kernel_rfl) (fun _ _ _ h=>h) (by rfl) (by intro _ h;(try dsimp only at h);go_split_ands;go_simp<;>with_reducible rfl) hHeld0 ?_
  try simp only [aS,aN,aT,a0,a1]
  refine tk (i:=15) (d:=some 54) rfl rfl (by kernel_rfl) (fun _ _ _ h=>h) (by rfl) (by intro _ h;(try dsimp only at h);go_split_ands;go_simp<;>with_reducible rfl) hHeld0 ?_
  try simp only [aS,aN,aT,a0,a1]
  refine rd1 (i:=9) (by kernel_rfl) rfl fun K hK=>?_
  go_simp
  go_at_call 205
  refine (refOf_any (cc:Int) _).mono ?_
  rintro e w5 ⟨rfl,b5⟩
  have dm0:=hid (b5.cell hHeld0.1)
  have dm1:=hid (b5.cell hHeld0.2.1)
  have dm2:=hid (b5.cell hHeld0.2.2.1)
  have dm3:=hid (b5.cell hHeld0.2.2.2.1)
  have dm4:=hid (b5.cell hHeld0.2.2.2.2.1)
  have dm5:=hid (b5.cell hHeld0.2.2.2.2.2)
  replace b5:=hid b5
  go_wp2_with fail
  refine hK.out _ _ (⟨dm0.out,dm1.out,dm2.out,dm3.out,dm4.out,dm5.out⟩) (fun hHeld1=>?_)
  try simp only [aS,aN,aT,a0,a1]
  refine rd1 (i:=10) (by kernel_rfl) rfl fun K hK=>?_
  go_simp
  go_at_call 201
  refine (HT2.out _ (H4.out.bl ((Bl.refl W).drew.trans b5.out))).mono ?_
  rintro e w6 ⟨rfl,b6⟩
  have dn0:=hid (b6.cell hHeld1.1)
  have dn1:=hid (b6.cell hHeld1.2.1)
  have dn2:=hid (b6.cell hHeld1.2.2.1)
  have dn3:=hid (b6.cell hHeld1.2.2.2.1)
  have dn4:=hid (b6.cell hHeld1.2.2.2.2.1)
  have dn5:=hid (b6.cell hHeld1.2.2.2.2.2)
  replace b6:=hid b6
  go_wp2_with fail
  refine hK.out _ _ (⟨dn0.out,dn1.out,dn2.out,dn3.out,dn4.out,dn5.out⟩) (fun hHeld2=>?_)
  try simp only [aS,aN,aT,a0,a1]
  refine rd1 (i:=16) (by kernel_rfl) rfl fun K hK=>?_
  go_simp
  go_at_call 204
  have j1:=bl_blk (((Bl.refl W).drew.trans b5.out).trans b6.out) g1.out
  have j2:=bl_blk (((Bl.refl W).drew.trans b5.out).trans b6.out) g2.out
  refine (HH.out.y.useY (B4.out.trans (((Bl.refl W).drew.trans b5.out).trans b6.out)) HP.out).mono ?_
  rintro e w7 ⟨rfl,H7,K7⟩
  have i3:=K7.at (Xp.new (Nat.le_refl _) (lt_some j1)) j1
  have i4:=K7.at (Xp.new (Nat.le_of_lt y1) (lt_some j2)) j2
  have e0:=hid H7.hb
  replace H7:=hid H7
  clear j1 j2
  go_wp2_with fail
  refine hK.out _ _ (⟨e0.out,(insC i3).2.2.1,(insC i3).2.2.2.1,(insC i3).2.2.2.2.1,c0_of i4,c1_of i4⟩) (fun hHeld3=>?_)
  try simp only [aS,aN,aT,a0,a1]
  refine wpAnyH_done (by kernel_rfl) ?_ _
  go_wp2
  go_end0
  exact HE.out _ H7.out.x
 ·go_wp2_with fail
  refine hK.out _ _ (⟨Bl.cell ((Bl.refl _).alloc _) hHeld0.1,Bl.cell ((Bl.refl _).alloc _) hHeld0.2.1,Bl.cell ((Bl.refl _).alloc _) hHeld0.2.2.1,Bl.cell ((Bl.refl _).alloc _) hHeld0.2.2.2.1,Bl.cell ((Bl.refl _).alloc _) hHeld0.2.2.2.2.1,Bl.cell ((Bl.refl _).alloc _) hHeld0.2.2.2.2.2.1,Bl.cell ((Bl.refl _).alloc _) hHeld0.2.2.2.2.2.2.1,Bl.cell ((Bl.refl _).alloc _) hHeld0.2.2.2.2.2.2.2⟩) (fun hHeld4=>?_)
  try simp only [aS,aN,aT,a0,a1]
  refine rd1 (i:=19) (by kernel_rfl) rfl fun K hK=>?_
  go_simp
  go_at_call 201
  refine (HT1.out _ (HH.out.bl (by first|exact HB.out.drew|exact HB.out.drew.alloc _))).mono ?_
  rintro e w2 ⟨rfl,b2⟩
  have dk0:=hid (b2.cell hHeld4.1)
  have dk1:=hid (b2.cell hHeld4.2.1)
  have dk2:=hid (b2.cell hHeld4.2.2.1)
  have dk3:=hid (b2.cell hHeld4.2.2.2.1)
  have dk4:=hid (b2.cell hHeld4.2.2.2.2.1)
  have dk5:=hid (b2.cell hHeld4.2.2.2.2.2.1)
  have dk6:=hid (b2.cell hHeld4.2.2.2.2.2.2.1)
  have dk7:=hid (b2.cell hHeld4.2.2.2.2.2.2.2)
  replace b2:=hid b2
  have bb2:Hid (Bl w w2):=by first|exact HB.out.drew.trans b2.out|exact (HB.out.drew.alloc _).trans b2.out
  have bx2:=bl_blk b2.out (by first|exact HL0.out|exact (Below.heap_alloc _ _ _ (lt_some HL0.out)).trans HL0.out)
  have hsz:=b2.out.size
  try (have q9:=bl_blk b2.out (b:=w.heap.size+1) (two_lie w _ _ _ _).2;have p0:=c0_of q9;have p1:=c1_of q9;have pz:=free_blk q9;replace q9:=hid q9)
  replace bx2:=hid bx2
  go_wp2_with fail
  refine hK.out _ _ (⟨dk0.out,dk1.out,dk2.out,dk3.out,dk4.out,dk5.out,dk6.out,dk7.out⟩) (fun hHeld5=>?_)
  try simp only [aS,aN,aT,a0,a1]
  refine rd1 (i:=21) (by kernel_rfl) rfl fun K hK=>?_
  go_wp2_with fail
  refine hK.out _ _ (by first|exact ⟨Bl.cell ((Bl.refl _).alloc _) dk0.out,Bl.cell ((Bl.refl _).alloc _) dk1.out,Bl.cell ((Bl.refl _).alloc _) dk2.out,Bl.cell ((Bl.refl _).alloc _) dk3.out,Bl.cell ((Bl.refl _).alloc _) dk4.out,Bl.cell ((Bl.refl _).alloc _) dk5.out,Bl.cell ((Bl.refl _).alloc _) dk6.out,Bl.cell ((Bl.refl _).alloc _) dk7.out⟩|exact ⟨set2_cellD dk0.out (by omega),set2_cellD dk1.out (by omega),set2_cellD dk2.out (by omega),set2_cellD dk3.out (by omega),set2_cellD dk4.out (by omega),set2_cellD dk5.out (by omega),set2_cellD dk6.out (by omega),set2_cellD dk7.out (by omega)⟩) (fun hHeld6=>?_)
  try simp only [aS,aN,aT,a0,a1]
  refine wpAnyH_done (by kernel_rfl) ?_ _
  go_wp2
  first
   | (have hQ:∃W b4,Bl w W∧w.heap.size<b4∧W.heap[w.heap.size]?=some (.cells #[.int .i64 15,.int .i64 ia,.int .i64 ib,.int .i64 (cc:Int),.int .i64 (k:Int),.slice Q nl q] 58 (0,0))∧W.heap[b4]?=some (.cells #[.int .i64 (im (c.rd ia)).kind,.int .i64 (im (c.rd ia)).n] 115 (0,0))∧W=w2.alloc (mvO (im (c.rd ia)))∧b4=w2.heap.size:=⟨_,_,bb2.out.alloc _,lt_some bx2.out,(Below.heap_alloc _ _ _ (lt_some bx2.out)).trans bx2.out,blk_new _ _ _,rfl,rfl⟩;obtain ⟨W,b4,B4,y1,g1,g2,gW,gb⟩:=hQ;rw [←gb,←gW])
   | (have hQ:∃W b4,Bl w W∧w.heap.size<b4∧W.heap[w.heap.size]?=some (.cells #[.int .i64 15,.int .i64 ia,.int .i64 ib,.int .i64 (cc:Int),.int .i64 (k:Int),.slice Q nl q] 58 (0,0))∧W.heap[b4]?=some (.cells #[.int .i64 (im (c.rd ia)).kind,.int .i64 (im (c.rd ia)).n] 115 (0,0))∧W=((w2.setCell ⟨w.heap.size+1,0,none⟩ (.int .i64 (im (c.rd ia)).kind)).setCell ⟨w.heap.size+1,1,none⟩ (.int .i64 (im (c.rd ia)).n))∧b4=w.heap.size+1:=⟨_,_,bl_two bb2.out (Nat.le_succ _) _ _,Nat.lt_succ_self _,set_two_far bx2.out (by omega) _ _,set_two q9.out,rfl,rfl⟩;obtain ⟨W,b4,B4,y1,g1,g2,gW,gb⟩:=hQ;rw [←gW,←gb])
  clear gW gb
  have H4:=hid (HH.out.bl B4)
  have x0:=hid H4.out.y.hb
  have x1:=hid (insC g1)
  have x3:=hid (c0_of g2)
  have x4:=hid (c1_of g2)
  replace B4:=hid B4
  replace g1:=hid g1
  replace g2:=hid g2
  refine wp_region_held_drew (S:=fun w'=>w'.cell? ⟨a.q,0,none⟩=some (.pointer (some ⟨g.hb,0,none⟩))∧w'.cell? ⟨w.heap.size,2,none⟩=some (.int .i64 ib)∧w'.cell? ⟨w.heap.size,3,none⟩=some (.int .i64 (cc:Int))∧w'.cell? ⟨w.heap.size,4,none⟩=some (.int .i64 (k:Int))∧w'.cell? ⟨b4,0,none⟩=some (.int .i64 (im (c.rd ia)).kind)∧w'.cell? ⟨b4,1,none⟩=some (.int .i64 (im (c.rd ia)).n)) (by kernel_rfl) ?_ (fun hHeld0=>?_)
  ·exact ⟨x0.out,x1.out.2.2.1,x1.out.2.2.2.1,x1.out.2.2.2.2.1,x3.out,x4.out⟩
  refine tk (i:=0) (d:=some 39) rfl rfl (by kernel_rfl) (fun _ _ _ h=>h) (by rfl) (by intro _ h;(try dsimp only at h);go_split_ands;go_simp<;>with_reducible rfl) hHeld0 ?_
  try simp only [aS,aN,aT,a0,a1]
  refine tk (i:=1) (d:=some 40) rfl rfl (by kernel_rfl) (fun _ _ _ h=>h) (by rfl) (by intro _ h;(try dsimp only at h);go_split_ands;go_simp<;>with_reducible rfl) hHeld0 ?_
  try simp only [aS,aN,aT,a0,a1]
  refine tk (i:=2) (d:=some 41) rfl rfl (by kernel_rfl) (fun _ _ _ h=>h) (by rfl) (by intro _ h;(try dsimp only at h);go_split_ands;go_simp<;>with_reducible rfl) hHeld0 ?_
  try simp only [aS,aN,aT,a0,a1]
  refine tk (i:=3) (d:=some 42) rfl rfl (by kernel_rfl) (fun _ _ _ h=>h) (by rfl) (by intro _ h;(try dsimp only at h);go_split_ands;go_simp<;>with_reducible rfl) hHeld0 ?_
  try simp only [aS,aN,aT,a0,a1]
  refine tk (i:=4) (d:=some 43) rfl rfl (by kernel_rfl) (fun _ _ _ h=>h) (by rfl) (by intro _ h;(try dsimp only at h);go_split_ands;go_simp<;>with_reducible rfl) hHeld0 ?_
  try simp only [aS,aN,aT,a0,a1]
  refine tk (i:=5) (d:=some 44) rfl rfl (by kernel_rfl) (fun _ _ _ h=>h) (by rfl) (by intro _ h;(try dsimp only at h);go_split_ands;go_simp<;>with_reducible rfl) hHeld0 ?_
  try simp only [aS,aN,aT,a0,a1]
  refine tk (i:=6) (d:=some 45) rfl rfl (by kernel_rfl) (fun _ _ _ h=>h) (by rfl) (by intro _ h;(try dsimp only at h);go_split_ands;go_simp<;>with_reducible rfl) hHeld0 ?_
  try simp only [aS,aN,aT,a0,a1]
  refine tk (i:=7) (d:=some 46) rfl rfl (by kernel_rfl) (fun _ _ _ h=>h) (by rfl) (by intro _ h;(try dsimp only at h);go_split_ands;go_simp<;>with_reducible rfl) hHeld0 ?_
  try simp only [aS,aN,aT,a0,a1]
  refine tk (i:=8) (d:=some 47) rfl rfl (by kernel_rfl) (fun _ _ _ h=>h) (by rfl) (by intro _ h;(try dsimp only at h);go_split_ands;go_simp<;>with_reducible rfl) hHeld0 ?_
  try simp only [aS,aN,aT,a0,a1]
  refine tk (i:=11) (d:=some 50) rfl rfl (by kernel_rfl) (fun _ _ _ h=>h) (by rfl) (by intro _ h;(try dsimp only at h);go_split_ands;go_simp<;>with_reducible rfl) hHeld0 ?_
  try simp only [aS,aN,aT,a0,a1]
  refine tk (i:=12) (d:=some 51) rfl rfl (by kernel_rfl) (fun _ _ _ h=>h) (by rfl) (by intro _ h;(try dsimp only at h);go_split_ands;go_simp<;>with_reducible rfl) hHeld0 ?_
  try simp only [aS,aN,aT,a0,a1]
  refine tk (i:=13) (d:=some 52) rfl rfl (by kernel_rfl) (fun _ _ _ h=>h) (by rfl) (by intro _ h;(try dsimp only at h);go_split_ands;go_simp<;>with_reducible rfl) hHeld0 ?_
  try simp only [aS,aN,aT,a0,a1]
  refine tk (i:=14) (d:=some 53) rfl rfl (by kernel_rfl) (fun _ _ _ h=>h) (by rfl) (by intro _ h;(try dsimp only at h);go_split_ands;go_simp<;>with_reducible rfl) hHeld0 ?_
  try simp only [aS,aN,aT,a0,a1]
  refine tk (i:=15) (d:=some 54) rfl rfl (by kernel_rfl) (fun _ _ _ h=>h) (by rfl) (by intro _ h;(try dsimp only at h);go_split_ands;go_simp<;>with_reducible rfl) hHeld0 ?_
  try simp only [aS,aN,aT,a0,a1]
  refine rd1 (i:=9) (by kernel_rfl) rfl fun K hK=>?_
  go_simp
  go_at_call 205
  refine (refOf_any (cc:Int) _).mono ?_
  rintro e w5 ⟨rfl,b5⟩
  have dm0:=hid (b5.cell hHeld0.1)
  have dm1:=hid (b5.cell hHeld0.2.1)
  have dm2:=hid (b5.cell hHeld0.2.2.1)
  have dm3:=hid (b5.cell hHeld0.2.2.2.1)
  have dm4:=hid (b5.cell hHeld0.2.2.2.2.1)
  have dm5:=hid (b5.cell hHeld0.2.2.2.2.2)
  replace b5:=hid b5
  go_wp2_with fail
  refine hK.out _ _ (⟨dm0.out,dm1.out,dm2.out,dm3.out,dm4.out,dm5.out⟩) (fun hHeld1=>?_)
  try simp only [aS,aN,aT,a0,a1]
  refine rd1 (i:=10) (by kernel_rfl) rfl fun K hK=>?_
  go_simp
  go_at_call 201
  refine (HT2.out _ (H4.out.bl ((Bl.refl W).drew.trans b5.out))).mono ?_
  rintro e w6 ⟨rfl,b6⟩
  have dn0:=hid (b6.cell hHeld1.1)
  have dn1:=hid (b6.cell hHeld1.2.1)
  have dn2:=hid (b6.cell hHeld1.2.2.1)
  have dn3:=hid (b6.cell hHeld1.2.2.2.1)
  have dn4:=hid (b6.cell hHeld1.2.2.2.2.1)
  have dn5:=hid (b6.cell hHeld1.2.2.2.2.2)
  replace b6:=hid b6
  go_wp2_with fail
  refine hK.out _ _ (⟨dn0.out,dn1.out,dn2.out,dn3.out,dn4.out,dn5.out⟩) (fun hHeld2=>?_)
  try simp only [aS,aN,aT,a0,a1]
  refine rd1 (i:=16) (by kernel_rfl) rfl fun K hK=>?_
  go_simp
  go_at_call 204
  have j1:=bl_blk (((Bl.refl W).drew.trans b5.out).trans b6.out) g1.out
  have j2:=bl_blk (((Bl.refl W).drew.trans b5.out).trans b6.out) g2.out
  refine (HH.out.y.useY (B4.out.trans (((Bl.refl W).drew.trans b5.out).trans b6.out)) HP.out).mono ?_
  rintro e w7 ⟨rfl,H7,K7⟩
  have i3:=K7.at (Xp.new (Nat.le_refl _) (lt_some j1)) j1
  have i4:=K7.at (Xp.new (Nat.le_of_lt y1) (lt_some j2)) j2
  have e0:=hid H7.hb
  replace H7:=hid H7
  clear j1 j2
  go_wp2_with fail
  refine hK.out _ _ (⟨e0.out,(insC i3).2.2.1,(insC i3).2.2.2.1,(insC i3).2.2.2.2.1,c0_of i4,c1_of i4⟩) (fun hHeld3=>?_)
  try simp only [aS,aN,aT,a0,a1]
  refine wpAnyH_done (by kernel_rfl) ?_ _
  go_wp2
  go_end0
  exact HE.out _ H7.out.x
end
end Go.Proofs.YtgiiapenmjollabGreat
