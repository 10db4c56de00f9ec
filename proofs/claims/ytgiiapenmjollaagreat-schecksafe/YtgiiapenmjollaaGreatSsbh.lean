import Derived.Test.YtgiiapenmjollaaGreatSsat
import Derived.Test.YtgiiapenmjollaaGreatSsay
import Derived.Test.YtgiiapenmjollaaGreatSsbg
namespace Go.Proofs.YtgiiapenmjollaaGreat
set_option linter.all false
set_option maxHeartbeats 40000000
set_option maxRecDepth 100000
open Go.RowKit
section
section
variable {X:Nat→Prop} {wx w0 w1:World} {g:Gf} {b0:Nat} {w w2:World} {cur s:As} {at':Int} {st:List (Option As)} {wt:List Int} {f:Fi} {m:Me}
def TrQ (f:Fi) (m:Me) (X:Nat→Prop) (wx w1:World) (g:Gf) (s0:As) (e:Ending) (w':World):Prop :=
 (e=.returned (.tuple #[.slice none 0 0,.bool false])∧FE X wx w1 g w')∨∃b0 cur at' st,e=.returned (.tuple #[.slice (some ⟨g.sb,0,none⟩) st.length g.sc,.bool true])∧FX X wx w1 g b0 w' cur at' st []∧Iv f m s0 st []
theorem fthr_any (C:Cx w0 w1 g f m) (hc:Wn f m cur) (h8:m.hands.length≤8) (hcl:m.code.length≤400) (hlo:0≤m.locs∧m.locs≤1000) (H:FX X wx w1 g b0 w cur at' (List.replicate m.code.length none) []) :
  Calls Tryz.prog 118 #[.pointer (some ⟨g.p,0,none⟩),.func (.func 119) #[.pointer (some ⟨g.q,0,none⟩)] #[]] w fun e w'=>TrQ f m X wx w1 g cur e w':=by
 have hmf:∀(fn:Fn) (first cap:Array Value) (w:World),(Instr.makeFunc fn first cap).run Tryz.prog w=.ok (.func fn first cap) w:=fun _ _ _ _=>rfl
 have BW:Hid (Bl w ((w.alloc (.cells #[.pointer (some ⟨g.p,0,none⟩)] 186)).alloc (.cells #[.func (.func 119) #[.pointer (some ⟨g.q,0,none⟩)] #[]] 165))):=((Bl.refl w).alloc _).alloc _
 have HW:=hid (H.wide BW.out)
 have hs:((w.alloc (.cells #[.pointer (some ⟨g.p,0,none⟩)] 186)).alloc (.cells #[.func (.func 119) #[.pointer (some ⟨g.q,0,none⟩)] #[]] 165)).heap.size=w.heap.size+1+1:=by simp
 have HB:Hid (Bx (Xf X w.heap.size ((w.alloc (.cells #[.pointer (some ⟨g.p,0,none⟩)] 186)).alloc (.cells #[.func (.func 119) #[.pointer (some ⟨g.q,0,none⟩)] #[]] 165)).heap.size) ((w.alloc (.cells #[.pointer (some ⟨g.p,0,none⟩)] 186)).alloc (.cells #[.func (.func 119) #[.pointer (some ⟨g.q,0,none⟩)] #[]] 165)) g w.heap.size (w.heap.size+1) 165) :=
  ⟨Or.inr ⟨Nat.le_refl _,by omega⟩,Or.inr ⟨by omega,by omega⟩,bl_blk ((Bl.refl _).alloc _) (mblk rfl),mblk (by simp)⟩
 have K:=hid (holds_any (.pointer (some ⟨w.heap.size,0,none⟩)) (.pointer (some ⟨w.heap.size+1,0,none⟩)) _ _ _ (fthr1 C hc w.heap.size (w.heap.size+1) 165 HB.out h8 hcl hlo HW.out |>.mono fun e w' (h:ThQ f m _ _ w1 g cur e w')=>(show (e=upE∧FE _ _ w1 g w')∨(e=.returned (.tuple #[])∧∃b0 cur' at' st,FX _ _ w1 g b0 w' cur' at' st []∧Iv f m cur st []) from h.imp id (fun ⟨b0,c,a,st,h1,h2⟩=>⟨h1,b0,c,a,st,h2⟩))))
 have HH:=hid H
 clear C hc h8 hcl hlo H hs
 go_enter Tryz.func118,Tryz.ntmps118
 go_wp2_with (go_at_call 167;refine K.out.mono ?_;rintro e w2 (⟨rfl,q⟩|⟨rfl,b1,c1,a1,st1,f1,i1⟩);all_goals try (have y0:=(HB.out.at f1).1;have hy0:=cell_lt y0;have y1:=f1.pc.2.2.2.2.2.2.2.1;have hy1:=cell_lt y1;have F1:=hid f1;clear f1))
 ·go_ret2
  exact Or.inl ⟨rfl,FE.back HH.out BW.out q⟩
 ·go_ret2
  exact Or.inr ⟨b1,c1,a1,st1,rfl,FX.back HH.out BW.out F1.out,i1⟩
end
end
theorem set_all {P:Ty→Prop} {l:List Ty} {a:Nat} {v:Ty} (h:∀t∈l,P t) (hv:P v):∀t∈l.set a v,P t:=fun t ht=>by
 rcases List.mem_or_eq_of_mem_set ht with q|q
 ·exact h t q
 ·rw [q];exact hv
theorem losT_all {P:Ty→Prop} {l:List Ty} {a:Nat} (h:∀t∈l,P t) (h0:P ty0):∀t∈losT l a,P t:=by
 unfold losT
 split
 ·exact set_all h h0
 ·split
  ·exact set_all h h0
  ·exact h
theorem wrT_all {P:Ty→Prop} {l:List Ty} {a:Nat} {v:Ty} (h:∀t∈l,P t) (h0:P ty0) (h4:P ⟨4,0⟩) (hv:P v):∀t∈wrT l a v,P t:=by
 unfold wrT
 split
 ·exact set_all (set_all (losT_all (losT_all h h0) h0) h4) hv
 ·exact set_all (losT_all h h0) hv
theorem argsT_all {P:Ty→Prop} (h0:P ty0) (h4:P ⟨4,0⟩):∀(l:List Ty) (l0:List Ty) (at':Nat),(∀t∈l0,P t)→(∀t∈l,P t)→∀t∈argsT l0 at' l,P t
 | [],l0,at',h,_=>h
 | x::l,l0,at',h,hl=>argsT_all h0 h4 l _ _ (wrT_all h h0 h4 (hl x (List.mem_cons_self ..))) (fun t ht=>hl t (List.mem_cons_of_mem _ ht))
theorem first_wn {f:Fi} {m:Me} (hme:smeB f.classes f.methods.length m=true):Wn f m (firstT m m.locs):=by
 obtain ⟨-,-,h1,h2,-,-,-,-,h3,-,-⟩:=smeP hme
 have hl:(firstT m m.locs).slots.length=m.locs.toNat:=by show (argsT _ _ _).length=_;rw [argsT_length,List.length_replicate]
 have rp:∀{P:Ty→Prop},P ty0→∀t∈List.replicate m.locs.toNat ty0,P t:=fun h t ht=>by rw [(List.mem_replicate.1 ht).2];exact h
 refine ⟨⟨⟨by omega,?_,?_,fun t ht=>by cases ht⟩,Nat.zero_le _⟩,⟨?_,fun t ht=>by cases ht⟩⟩
 ·refine argsT_pair _ _ _ (rep_pairT _) (fun t ht=>?_) (by rw [List.length_replicate];omega)
  have:=(tyB_ok (h3 t ht)).2
  omega
 ·refine argsT_all (P:=fun t=>refOk f.classes.length t∧0≤t.kind∧t.kind≤4) ⟨fun e=>absurd e (by decide),by decide,by decide⟩ ⟨fun e=>absurd e (by decide),by decide,by decide⟩ _ _ _ (rp ⟨fun e=>absurd e (by decide),by decide,by decide⟩) (fun t ht=>?_)
  have:=tyB_ok (h3 t ht)
  exact ⟨this.1,by have:=this.2;omega,by have:=this.2;omega⟩
 ·exact argsT_all (P:=nrT) (fun _=>rfl) (fun _=>rfl) _ _ _ (rp (fun _=>rfl)) (fun t ht=>tyB_nr (h3 t ht))
theorem made_sp (n:Nat):madeCells #[.pointer none] n=((List.range n).map (fun _=>spV none)).toArray:=by
 apply Array.ext_getElem?
 intro j
 unfold madeCells
 by_cases hj:j<n
 ·simp [hj,spV,Nat.mod_one]
 ·simp [hj]
def gf0 (f:Fi) (m:Me) (A P Cd Kh:Option Addr) (a p c k q sb jb qc:Nat):Gf :=
 ⟨q,qc,sb,m.code.length,.slice A f.classes.length a,.slice P m.params.length p,.int .i64 m.ret.kind,.int .i64 m.ret.cls,.int .i64 m.stack,.int .i64 m.locs,.int .i64 m.regs,.slice Cd m.code.length c,.slice Kh m.hands.length k,.slice (some ⟨jb,0,none⟩) f.classes.length f.classes.length⟩
theorem begin_flow (f:Fi) (m:Me) (A B P Cd Kh:Option Addr) (a b p c k q sb jb:Nat) (v0:Value) (R:Nat→Nat) (w0 W w3:World) (hW:Bl w0 W) (hq:W.heap.size≤q) (hqs:q≠sb) (N:NwI f.classes m v0 sb jb R W w3) (hR:∀i,i<f.classes.length→R i≠q∧R i≠sb) (hjq:jb≠q) (hjs:jb≠sb)
  (hb:w3.heap[q]?=some (.cells #[v0,.slice none 0 0,.slice A f.classes.length a,.slice P m.params.length p,.int .i64 m.ret.kind,.int .i64 m.ret.cls,.int .i64 m.stack,.int .i64 m.locs,.int .i64 m.regs,.slice Cd m.code.length c,.slice Kh m.hands.length k,.int .i64 0,.slice (some ⟨sb,0,none⟩) m.code.length m.code.length,.slice none 0 0,.slice (some ⟨jb,0,none⟩) f.classes.length f.classes.length] 228 (0,0)))
  (hmay:mayB f.classes=true) (hmes:∀x∈f.methods,smeB f.classes f.methods.length x=true) (hme:smeB f.classes f.methods.length m=true) (hA:ClsAt w0 A f.classes) (hB:MesAt w0 B f.methods) (hM:MeAt w0 m P Cd Kh) :
  Cx w0 (w3.alloc (.cells #[.pointer (some ⟨q,0,none⟩),.slice B f.methods.length b] 189)) (gf0 f m A P Cd Kh a p c k q sb jb w3.heap.size) f m
  ∧ FX (fun _=>False) (w3.alloc (.cells #[.pointer (some ⟨q,0,none⟩),.slice B f.methods.length b] 189)) (w3.alloc (.cells #[.pointer (some ⟨q,0,none⟩),.slice B f.methods.length b] 189)) (gf0 f m A P Cd Kh a p c k q sb jb w3.heap.size) W.heap.size (w3.alloc (.cells #[.pointer (some ⟨q,0,none⟩),.slice B f.methods.length b] 189)) (firstT m m.locs) 0 (List.replicate m.code.length none) []:=by
 have hql:=lt_some hb
 have hsl:=lt_some N.sbk
 have B1:Bl w3 (w3.alloc (.cells #[.pointer (some ⟨q,0,none⟩),.slice B f.methods.length b] 189)):=(Bl.refl w3).alloc _
 have Z:=mblk (w:=w3) (cs:=#[.pointer (some ⟨q,0,none⟩),.slice B f.methods.length b]) (t:=189) rfl
 have hs:(w3.alloc (.cells #[.pointer (some ⟨q,0,none⟩),.slice B f.methods.length b] 189)).heap.size=w3.heap.size+1:=by simp
 have hwW:=hW.size
 have hsbl:=N.sbl
 have J:=N.ji.ext B1
 generalize w3.alloc (.cells #[.pointer (some ⟨q,0,none⟩),.slice B f.methods.length b] 189)=w1 at *
 refine ⟨⟨⟨B,b,Z,hB⟩,?_,?_,⟨?_,?_⟩,(hW.trans N.bl).trans B1,⟨A,a,rfl,hA⟩,⟨rfl,rfl⟩,rfl,⟨Cd,c,rfl,hM.2.1⟩,⟨Kh,k,rfl,hM.2.2.1⟩,?_,hmay,hme,hmes⟩,?_⟩
 ·show w3.heap.size≠q;omega
 ·show w3.heap.size≠sb;omega
 ·show w0.heap.size≤q;omega
 ·show w0.heap.size≤sb;omega
 ·refine ⟨jb,0,f.classes.length,rfl,hjq,hjs,fun i hi=>?_⟩
  obtain ⟨a1,a2,a3,a4,a5⟩:=J.row i hi
  refine ⟨R i,0,f.classes.length,by rw [Nat.zero_add];exact a4,(hR i hi).1,(hR i hi).2,fun j hj=>by rw [Nat.zero_add];exact a5 j hj⟩
 ·have ev:∀r:Nat,r≠0→(fun r:Nat=>if r=0 then v0 else Value.slice none 0 0) r=.slice none 0 0:=fun r h=>if_neg h
  have nb:(Value.slice none 0 0).ownBlock=none:=rfl
  refine ⟨fun r=>if r=0 then v0 else .slice none 0 0,.slice none 0 0,fun _=>none,⟨⟨rfl,rfl,rfl,Nat.le_refl _,fun _ _ _ _=>rfl⟩,⟨?_,?_⟩,?_,?_,?_,fun r hr=>?_,fun r r' b' hne e=>?_,?_,fun k' b' e=>(by cases e),fun k' _=>nth_none_rep _ _,fun k' j b' e=>(by cases e),⟨rfl,Or.inl ⟨rfl,rfl⟩⟩,fun b' hx=>absurd hx id,⟨Nat.le_refl _,fun b' hx=>absurd hx id⟩⟩⟩
  ·show q<_;omega
  ·show sb<_;omega
  ·rw [List.length_replicate];exact bl_blk B1 hb
  ·exact rowBl N.own B1
  ·exact ⟨rfl,Or.inl ⟨rfl,rfl⟩⟩
  ·have:rtF (firstT m m.locs) (List.replicate m.code.length none) r=[]:=by
    unfold rtF
    rw [if_neg (by omega),if_neg (by omega),nth_none_rep]
   rw [this]
   try dsimp only
   rw [if_neg (by omega)]
   exact ⟨rfl,Or.inl ⟨rfl,rfl⟩⟩
  ·try dsimp only at e ⊢
   by_cases h:r'=0
   ·rw [if_neg (by omega)] at e;cases e
   ·rw [if_neg h];intro e2;cases e2
  ·rw [List.length_replicate]
   have:=bl_blk B1 N.sbk
   rw [made_sp] at this
   exact this
def SqQ (f:Fi) (m:Me) (w:World) (e:Ending) (w':World):Prop :=
 Bl w w'∧(e=.returned (.tuple #[.slice none 0 0,.bool false])∨∃S n s,e=.returned (.tuple #[.slice S n s,.bool true])∧SoundM f m)
theorem fthrough_any (f:Fi) (m:Me) (A B P Cd Kh:Option Addr) (a b p c k:Nat) (w:World) (hmay:mayB f.classes=true) (hmes:∀x∈f.methods,smeB f.classes f.methods.length x=true) (hme:smeB f.classes f.methods.length m=true) (h8:m.hands.length≤8) (hA:ClsAt w A f.classes) (hB:MesAt w B f.methods) (hM:MeAt w m P Cd Kh) :
  Calls Tryz.prog 62 #[.agg #[.slice A f.classes.length a,.slice B f.methods.length b],fmeV m P Cd Kh p c k] w fun e w'=>SqQ f m w e w':=by
 have hmf:∀(fn:Fn) (first cap:Array Value) (w:World),(Instr.makeFunc fn first cap).run Tryz.prog w=.ok (.func fn first cap) w:=fun _ _ _ _=>rfl
 obtain ⟨-,-,l1,l2,-,-,l3,-,l4,-,-⟩:=smeP hme
 have NN:Hid (∀V,Bl w V→Calls Tryz.prog 117 #[.slice A f.classes.length a,fmeV m P Cd Kh p c k,.int .i64 m.locs] V fun e w'=>NwQ f.classes m A P Cd Kh a p c k V e w'):=fun V hV=>fnew_any f.classes m A P Cd Kh a p c k V hmay (hA.bl hV) (hM.1.bl hV) l1 l2 (fun t ht=>(tyB_ok (l4 t ht)).2) l3
 have BG:Hid (∀(W w3:World) (q sb jb:Nat) (v0:Value) (R:Nat→Nat),Bl w W→W.heap.size≤q→q≠sb→NwI f.classes m v0 sb jb R W w3→(∀i,i<f.classes.length→R i≠q∧R i≠sb)→jb≠q→jb≠sb→w3.heap[q]?=some (.cells #[v0,.slice none 0 0,.slice A f.classes.length a,.slice P m.params.length p,.int .i64 m.ret.kind,.int .i64 m.ret.cls,.int .i64 m.stack,.int .i64 m.locs,.int .i64 m.regs,.slice Cd m.code.length c,.slice Kh m.hands.length k,.int .i64 0,.slice (some ⟨sb,0,none⟩) m.code.length m.code.length,.slice none 0 0,.slice (some ⟨jb,0,none⟩) f.classes.length f.classes.length] 228 (0,0)) →
   Calls Tryz.prog 118 #[.pointer (some ⟨q,0,none⟩),.func (.func 119) #[.pointer (some ⟨w3.heap.size,0,none⟩)] #[]] (w3.alloc (.cells #[.pointer (some ⟨q,0,none⟩),.slice B f.methods.length b] 189)) fun e w'=>SqQ f m w e w'):=fun W w3 q sb jb v0 R h1 h2 h3 h4 h5 h6 h7 h8'=>by
  obtain ⟨C,F⟩:=begin_flow f m A B P Cd Kh a b p c k q sb jb v0 R w W w3 h1 h2 h3 h4 h5 h6 h7 h8' hmay hmes hme hA hB hM
  refine (fthr_any C (first_wn hme) h8 l3 (by omega) F).mono ?_
  rintro e w' (⟨rfl,b0,cur,at',st,wt,hx⟩|⟨b0,cur,at',st,rfl,hx,hi⟩)
  ·exact ⟨C.bl0 hx,Or.inl rfl⟩
  ·exact ⟨C.bl0 hx,Or.inr ⟨_,_,_,rfl,hi.sound⟩⟩
 have HB:Hid (Bl w ((w.alloc (.cells #[.slice A f.classes.length a,.slice B f.methods.length b] 25)).alloc (fmeO m P Cd Kh p c k))):=((Bl.refl w).alloc _).alloc _
 have ZF:Hid (((w.alloc (.cells #[.slice A f.classes.length a,.slice B f.methods.length b] 25)).alloc (fmeO m P Cd Kh p c k)).heap[w.heap.size]?=some (.cells #[.slice A f.classes.length a,.slice B f.methods.length b] 25 (0,0))):=bl_blk ((Bl.refl _).alloc _) (mblk rfl)
 have ZM:Hid (((w.alloc (.cells #[.slice A f.classes.length a,.slice B f.methods.length b] 25)).alloc (fmeO m P Cd Kh p c k)).heap[w.heap.size+1]?=some (fmeO m P Cd Kh p c k)):=mblk (by simp)
 have hwl:=lt_some ZM.out
 have SS:Hid (∀w':World,w'.heap[w.heap.size]?=some (.cells #[.slice A f.classes.length a,.slice B f.methods.length b] 25 (0,0))→w'.heap[w.heap.size+1]?=some (fmeO m P Cd Kh p c k)→w'.cell? ⟨w.heap.size,0,none⟩=some (.slice A f.classes.length a)∧w'.cell? ⟨w.heap.size,1,none⟩=some (.slice B f.methods.length b)∧w'.cell? ⟨w.heap.size+1,0,none⟩=some (.slice P m.params.length p)∧w'.cell? ⟨w.heap.size+1,1,none⟩=some (.int .i64 m.ret.kind)∧w'.cell? ⟨w.heap.size+1,2,none⟩=some (.int .i64 m.ret.cls)∧w'.cell? ⟨w.heap.size+1,3,none⟩=some (.int .i64 m.stack)∧w'.cell? ⟨w.heap.size+1,4,none⟩=some (.int .i64 m.locs)∧w'.cell? ⟨w.heap.size+1,5,none⟩=some (.int .i64 m.regs)∧w'.cell? ⟨w.heap.size+1,6,none⟩=some (.slice Cd m.code.length c)∧w'.cell? ⟨w.heap.size+1,7,none⟩=some (.slice Kh m.hands.length k)):=fun w' h g=>⟨(cell_blk h).trans rfl,(cell_blk h).trans rfl,(cell_blk g).trans rfl,(cell_blk g).trans rfl,(cell_blk g).trans rfl,(cell_blk g).trans rfl,(cell_blk g).trans rfl,(cell_blk g).trans rfl,(cell_blk g).trans rfl,(cell_blk g).trans rfl⟩
 clear hmay hmes hme h8 hA hB hM l1 l2 l3 l4
 go_enter Tryz.func62,Tryz.ntmps62
 go_wp2
 generalize (w.alloc (.cells #[.slice A f.classes.length a,.slice B f.methods.length b] 25)).alloc (fmeO m P Cd Kh p c k)=V at *
 refine wp_region_held_drew (S:=fun w'=>w'.cell? ⟨w.heap.size,0,none⟩=some (.slice A f.classes.length a)∧w'.cell? ⟨w.heap.size,1,none⟩=some (.slice B f.methods.length b)∧w'.cell? ⟨w.heap.size+1,0,none⟩=some (.slice P m.params.length p)∧w'.cell? ⟨w.heap.size+1,1,none⟩=some (.int .i64 m.ret.kind)∧w'.cell? ⟨w.heap.size+1,2,none⟩=some (.int .i64 m.ret.cls)∧w'.cell? ⟨w.heap.size+1,3,none⟩=some (.int .i64 m.stack)∧w'.cell? ⟨w.heap.size+1,4,none⟩=some (.int .i64 m.locs)∧w'.cell? ⟨w.heap.size+1,5,none⟩=some (.int .i64 m.regs)∧w'.cell? ⟨w.heap.size+1,6,none⟩=some (.slice Cd m.code.length c)∧w'.cell? ⟨w.heap.size+1,7,none⟩=some (.slice Kh m.hands.length k)) (by kernel_rfl) ?_ (fun hHeld0=>?_)
 ·exact SS.out _ ZF.out ZM.out
 iterate 7 (refine tn rfl (by kernel_rfl) (fun _ _ _ h=>h) (by intro _ h;go_split_ands;go_simp<;>with_reducible rfl) hHeld0 ?_;try simp only [aZ])
 refine rd1 (i:=5) (by kernel_rfl) rfl fun K hK=>?_
 go_simp
 go_at_call 117
 refine (NN.out V.drew (HB.out.trans (Bl.refl V).drew)).mono ?_
 rintro e w3 ⟨q,v0,sb,jb,R,rfl,n1,n2,n3,n4,n5,n6,n7⟩
 have B3:=hid ((HB.out.trans (Bl.refl V).drew).trans n3.bl)
 have K3:=hid (BG.out V.drew w3 q sb jb v0 R (HB.out.trans (Bl.refl V).drew) n1 n2 n3 n4 n5 n6 n7)
 have F3:=hid (bl_blk ((Bl.refl V).drew.trans n3.bl) ZF.out)
 have M3:=hid (bl_blk ((Bl.refl V).drew.trans n3.bl) ZM.out)
 clear n1 n2 n3 n4 n5 n6 n7
 refine hK.out _ _ (SS.out _ F3.out M3.out) (fun hHeld1=>?_)
 try simp only [aZ]
 clear hK
 refine tn rfl (by kernel_rfl) (fun _ _ _ h=>h) (by intro _ h;go_split_ands;go_simp<;>with_reducible rfl) hHeld1 ?_
 try simp only [aZ]
 refine rd1 (i:=9) (by kernel_rfl) rfl fun K hK=>?_
 go_simp
 refine hK.out _ _ (SS.out _ (bl_blk ((Bl.refl w3).alloc _) F3.out) (bl_blk ((Bl.refl w3).alloc _) M3.out)) (fun hHeld2=>?_)
 try simp only [aZ]
 clear hK
 refine tn rfl (by kernel_rfl) (fun _ _ _ h=>h) (by intro _ h;go_split_ands;go_simp<;>with_reducible rfl) hHeld2 ?_
 try simp only [aZ]
 refine wpAnyH_done (by kernel_rfl) ?_ _
 clear hHeld0 hHeld1 hHeld2 F3 M3 SS ZF ZM hwl
 go_wp2_with (go_at_call 118;refine K3.out.mono ?_;rintro e w5 ⟨b5,rfl|⟨S5,n5,s5,rfl,q5⟩⟩)
 ·go_ret2
  exact ⟨b5,Or.inl rfl⟩
 ·go_ret2
  exact ⟨b5,Or.inr ⟨S5,n5,s5,rfl,q5⟩⟩
theorem results_tmp_cell {P:Program} {fn:Func} {p s:Tmp} {ty:TypeId} (h:fn.results=#[.tmp s,.cell p ty]) (tmps:Array Value) (w:World) (g:Nat) (t:TypeId) (cs:Array Value) (fr:Nat×Nat) (d:TypeDesc) (v:Value)
  (hp:tmps.getD p undef=.pointer (some ⟨g,0,none⟩)) (hs:tmps.getD s undef=v) (hg:w.heap[g]?=some (.cells cs t fr))
  (hu:P.underlying ty=some d) (hd:(match d with | .struct _ | .array _ _=>true|_=>false)=true) (hi:(P.info? ty).map (·.size)=some cs.size) :
  (results fn tmps).run P w=.ok (.tuple #[v,.agg cs]) w:=by
 have hp':tmps[p]?.getD undef=.pointer (some ⟨g,0,none⟩):=by simpa using hp
 have hs':tmps[s]?.getD undef=v:=by simpa using hs
 simp [results,h,hp',hs',asAddr,run_loadVar_row w g t ty cs fr d hg hu hd hi]
theorem info_flt:(Tryz.prog.info? 36).map (·.size)=some 3:=by kernel_rfl
theorem info_sts3:(Tryz.prog.info? 183).map (fun i=>(i.zero,i.size,i.bytes))=some (some (.slice none 0 0),1,24):=by kernel_rfl
theorem make_all (n:Nat) (hn:n≤1000) (u:World):(Instr.makeSlice 65 (.int .i64 (n:Int)) (.int .i64 (n:Int))).run Tryz.prog u=.ok (.slice (some ⟨u.heap.size,0,none⟩) n n) (u.alloc (.cells (madeCells #[.slice none 0 0] n) 183)):=by
 obtain ⟨i,hi,hz,hs,hb⟩:=info_partsT info_sts3
 have h:=run_make u 65 183 i _ Tryz.underlying65 hi hz .i64 .i64 (n:Int) (n:Int) (by omega) (Int.le_refl _) (by rw [hb];omega) (by omega)
 rw [hs] at h
 simp only [Int.toNat_natCast,Nat.mul_one] at h
 exact h
theorem set_3f {w:World} {b:Nat} {u0 u1 u2:Value} {t:TypeId} (h:w.heap[b]?=some (.cells #[u0,u1,u2] t (0,0))) (v0 v1 v2:Value):(((w.setCell ⟨b,0,none⟩ v0).setCell ⟨b,1,none⟩ v1).setCell ⟨b,2,none⟩ v2).heap[b]?=some (.cells #[v0,v1,v2] t (0,0)):=by
 rw [block_set (block_set (block_set h _) _)];rfl
theorem bl_3f {a w:World} (h:Bl a w) {b:Nat} (hb:a.heap.size≤b) (v0 v1 v2:Value):Bl a (((w.setCell ⟨b,0,none⟩ v0).setCell ⟨b,1,none⟩ v1).setCell ⟨b,2,none⟩ v2):=((h.setCell hb _).setCell hb _).setCell hb _
theorem hands8 {cs:List Cl} {nm:Nat} {m:Me} (h:smeB cs nm m=true):m.hands.length≤8:=by
 unfold smeB headB at h
 simp only [Bool.and_eq_true,List.all_eq_true,decide_eq_true_eq] at h
 omega
def ChQ (f:Fi) (w:World) (e:Ending) (w':World):Prop :=
 Bl w w'∧((smayB f=false∧e=.returned (.tuple #[.slice none 0 0,.agg #[.int .i64 2,.int .i64 0,.int .i64 0]]))∨(∃k:Nat,e=.returned (.tuple #[.slice none 0 0,.agg #[.int .i64 3,.int .i64 k,.int .i64 0]]))∨∃S n s,e=.returned (.tuple #[.slice S n s,.agg #[.int .i64 0,.int .i64 0,.int .i64 0]])∧smayB f=true∧∀m∈f.methods,SoundM f m)
structure ChI (f:Fi) (A B:Option Addr) (a b:Nat) (w:World) (ab q:Nat) (wr:World):Prop where
 bl:Bl w wr
 fi:wr.heap[w.heap.size]?=some (.cells #[.slice A f.classes.length a,.slice B f.methods.length b] 25 (0,0))
 flt:wr.heap[w.heap.size+1]?=some (.cells #[.int .i64 0,.int .i64 0,.int .i64 0] 36 (0,0))
 lo:w.heap.size+1<ab
 all:∃cs:Array Value,wr.heap[ab]?=some (.cells cs 183 (0,0))∧cs.size=f.methods.length
 so:∀j,j<q→SoundM f (nth me0 f.methods j)
theorem ChI.ext {f:Fi} {A B:Option Addr} {a b:Nat} {w:World} {ab q:Nat} {wr wr':World} (I:ChI f A B a b w ab q wr) (h:Bl wr wr'):ChI f A B a b w ab q wr':=by
 obtain ⟨cs,h1,h2⟩:=I.all
 exact ⟨I.bl.trans h,bl_blk h I.fi,bl_blk h I.flt,I.lo,⟨cs,bl_blk h h1,h2⟩,I.so⟩
theorem ChI.set {f:Fi} {A B:Option Addr} {a b:Nat} {w:World} {ab q:Nat} {wr:World} (I:ChI f A B a b w ab q wr) (i:Nat) (v:Value) (hs:SoundM f (nth me0 f.methods q)):ChI f A B a b w ab (q+1) (wr.setCell ⟨ab,i,none⟩ v):=by
 obtain ⟨cs,h1,h2⟩:=I.all
 have:=I.lo
 refine ⟨I.bl.setCell (by show w.heap.size≤ab;omega) _,(block_far (by omega) _).trans I.fi,(block_far (by omega) _).trans I.flt,I.lo,⟨_,block_set h1 _,by simp [h2]⟩,fun j hj=>?_⟩
 by_cases e:j=q
 ·rw [e];exact hs
 ·exact I.so j (by omega)
theorem fcheck_any (f:Fi) (A B:Option Addr) (a b:Nat) (w:World) (hA:ClsAt w A f.classes) (hB:MesAt w B f.methods) :
  Calls Tryz.prog 61 #[fiV f.classes.length f.methods.length A B a b,.func (.func 16) #[] #[],.func (.func 62) #[] #[]] w fun e w'=>ChQ f w e w':=by
 have HA:=hid hA
 have HB:=hid hB
 have BW:Hid (Bl w ((w.alloc (.cells #[.slice A f.classes.length a,.slice B f.methods.length b] 25)).alloc (.cells #[.int .i64 0,.int .i64 0,.int .i64 0] 36))):=((Bl.refl w).alloc _).alloc _
 have ZF:Hid (((w.alloc (.cells #[.slice A f.classes.length a,.slice B f.methods.length b] 25)).alloc (.cells #[.int .i64 0,.int .i64 0,.int .i64 0] 36)).heap[w.heap.size]?=some (.cells #[.slice A f.classes.length a,.slice B f.methods.length b] 25 (0,0))):=bl_blk ((Bl.refl _).alloc _) (mblk rfl)
 have ZX:Hid (((w.alloc (.cells #[.slice A f.classes.length a,.slice B f.methods.length b] 25)).alloc (.cells #[.int .i64 0,.int .i64 0,.int .i64 0] 36)).heap[w.heap.size+1]?=some (.cells #[.int .i64 0,.int .i64 0,.int .i64 0] 36 (0,0))):=mblk (by simp)
 cases hm:smayB f with
 | false =>
  have HM:=hid hm
  clear hm hA hB
  go_enter Tryz.func61,Tryz.ntmps61
  go_wp2_with (go_at_call 16;refine (smay_any f A B a b _ (HA.out.bl BW.out) (HB.out.bl BW.out)).mono ?_;rintro e w2 ⟨he,b2⟩;rw [HM.out] at he;subst he;have X2:=hid (bl_blk b2 ZX.out);have x0:=cell_blk (i:=0) X2.out;have x1:=cell_blk (i:=1) X2.out;have x2:=cell_blk (i:=2) X2.out;have hx:=lt_some X2.out;have fx:=free_blk X2.out;have B2:=hid (BW.out.trans b2);clear b2)
  refine bodyPost_ret (results_tmp_cell rfl _ _ (w.heap.size+1) _ _ _ _ (.slice none 0 0) rfl rfl (set_3f X2.out _ _ _) Tryz.underlying36 rfl info_flt) rfl ?_
  exact ⟨bl_3f B2.out (by omega) _ _ _,Or.inl ⟨HM.out,rfl⟩⟩
 | true =>
  have HM:=hid hm
  have hsm:=hm
  unfold smayB at hsm
  rw [Bool.and_eq_true,Bool.and_eq_true,List.all_eq_true] at hsm
  obtain ⟨⟨hmay,hnm⟩,hmes⟩:=hsm
  have hnm:=of_decide_eq_true hnm
  have HMY:=hid hmay
  have HMS:=hid hmes
  have mk:=make_all f.methods.length (by omega)
  clear hm hmay hmes hA hB
  go_enter Tryz.func61,Tryz.ntmps61
  go_wp2_with (go_at_call 16;refine (smay_any f A B a b _ (HA.out.bl BW.out) (HB.out.bl BW.out)).mono ?_;rintro e w2 ⟨he,b2⟩;rw [HM.out] at he;subst he;have F2:=hid (bl_blk b2 ZF.out);have x0:∀o,(w2.alloc o).cell? ⟨w.heap.size,1,none⟩=some (.slice B f.methods.length b):=(fun o=>((cell_blk (bl_blk ((Bl.refl w2).alloc o) F2.out)).trans rfl));have x1:w2.cell? ⟨w.heap.size,1,none⟩=some (.slice B f.methods.length b):=((cell_blk F2.out).trans rfl);have hx:=lt_some F2.out;have X2:=hid (bl_blk b2 ZX.out);have B2:=hid (BW.out.trans b2);have hl2:=lt_some X2.out;clear b2)
  have I0:Hid (ChI f A B a b w w2.heap.size 0 (w2.alloc (.cells (madeCells #[.slice none 0 0] f.methods.length) 183))):=⟨B2.out.alloc _,bl_blk ((Bl.refl w2).alloc _) F2.out,bl_blk ((Bl.refl w2).alloc _) X2.out,hl2,⟨_,mblk rfl,by rw [size_madeCells]⟩,fun j hj=>by omega⟩
  obtain ⟨ab,hab⟩:∃ab,ab=w2.heap.size:=⟨_,rfl⟩
  rw [←hab] at I0 ⊢
  clear mk x0 x1 hx hl2 F2 X2 B2 ZF ZX BW
  go_loopw [25] (fun i wr=>∃q:Nat,q≤f.methods.length∧i=.int .i64 q∧Hid (ChI f A B a b w ab q wr)) (fun i _=>f.methods.length-(intOf i).toNat)
  case atStart=>exact ⟨0,Nat.zero_le _,rfl,I0.out⟩
  case round =>
   clear I0 hab
   obtain ⟨q,hq,rfl,HI⟩:=hrel
   by_cases hql:q<f.methods.length
   ·rcases HB.out.2 with h0|⟨mb,mo,rfl,hcell⟩
    ·omega
    obtain ⟨P,Cd,Kh,p,c,k,y0,y1,y2,y3,y4,y5,y6,y7,hMe⟩:=hcell q hql
    have bw:=HI.out.bl
    have y0:=bw.cell y0
    have y1:=bw.cell y1
    have y2:=bw.cell y2
    have y3:=bw.cell y3
    have y4:=bw.cell y4
    have y5:=bw.cell y5
    have y6:=bw.cell y6
    have y7:=bw.cell y7
    have hy:=cell_lt y0
    have hq0:¬(q:Int)<0:=by omega
    have hq1:(q:Int)<(f.methods.length:Int):=by omega
    have hmem:nth me0 f.methods q∈f.methods:=nth_mem hql
    have hsm:=HMS.out _ hmem
    have SO:=HI.out.so
    have HSO:=hid SO
    have BA:Hid (Bl wr (wr.alloc (fmeO (nth me0 f.methods q) P Cd Kh p c k))):=(Bl.refl wr).alloc _
    have IA:=hid (HI.out.ext BA.out)
    have KT:=hid (fthrough_any f (nth me0 f.methods q) A (some ⟨mb,mo,none⟩) P Cd Kh a b p c k _ HMY.out HMS.out hsm (hands8 hsm) (HA.out.bl IA.out.bl) (HB.out.bl IA.out.bl) (hMe.bl IA.out.bl))
    have z0:∀o,(wr.alloc o).cell? ⟨w.heap.size,0,none⟩=some (.slice A f.classes.length a):=fun o=>(cell_blk (bl_blk ((Bl.refl wr).alloc o) HI.out.fi)).trans rfl
    have z1:∀o,(wr.alloc o).cell? ⟨w.heap.size,1,none⟩=some (.slice (some ⟨mb,mo,none⟩) f.methods.length b):=fun o=>(cell_blk (bl_blk ((Bl.refl wr).alloc o) HI.out.fi)).trans rfl
    have hz:=lt_some HI.out.fi
    clear hcell hMe bw hmem hsm SO
    go_wp2_with (go_at_call 62;refine KT.out.mono ?_;rintro e w5 ⟨b5,rfl|⟨S5,n5,s5,rfl,so⟩⟩;all_goals (have I5:=hid (IA.out.ext b5);have X5:=hid I5.out.flt;have x0:=cell_blk (i:=0) X5.out;have x1:=cell_blk (i:=1) X5.out;have x2:=cell_blk (i:=2) X5.out;have hx:=lt_some X5.out;have fx:=free_blk X5.out;obtain ⟨cs5,k1,k2⟩:=I5.out.all;have hl5:=lt_some k1;have fz5:=free_blk k1;have hc5:∃v,w5.cell? ⟨ab,q,none⟩=some v:=⟨_,(cell_blk k1).trans (Array.getElem?_eq_getElem (by omega))⟩;obtain ⟨v5,hv5⟩:=hc5;clear k1 k2 b5))
    ·refine bodyPost_ret (results_tmp_cell rfl _ _ (w.heap.size+1) _ _ _ _ (.slice none 0 0) rfl rfl (set_3f X5.out _ _ _) Tryz.underlying36 rfl info_flt) rfl ?_
     exact ⟨bl_3f I5.out.bl (by omega) _ _ _,Or.inr (Or.inl ⟨q,rfl⟩)⟩
    ·go_roundw
     case rel=>exact ⟨q+1,by omega,by go_num,I5.out.set q _ so⟩
     case measure=>simp [intOf];omega
   ·obtain rfl:q=f.methods.length:=by omega
    have X5:=hid HI.out.flt
    have x0:=cell_blk (i:=0) X5.out
    have x1:=cell_blk (i:=1) X5.out
    have x2:=cell_blk (i:=2) X5.out
    have hx:=lt_some X5.out
    have fx:=free_blk X5.out
    go_wp2
    refine bodyPost_ret (results_tmp_cell rfl _ _ (w.heap.size+1) _ _ _ _ (.slice (some ⟨ab,0,none⟩) f.methods.length f.methods.length) rfl rfl (set_3f X5.out _ _ _) Tryz.underlying36 rfl info_flt) rfl ?_
    refine ⟨bl_3f HI.out.bl (by omega) _ _ _,Or.inr (Or.inr ⟨_,_,_,rfl,HM.out,fun m hm=>?_⟩)⟩
    obtain ⟨j,hj,rfl⟩:=List.getElem_of_mem hm
    have:=HI.out.so j hj
    rw [nth_get hj] at this
    exact this
abbrev fltV (c k:Int):Value:=.agg #[.int .i64 c,.int .i64 k,.int .i64 0]
def ChP (f:Fi) (c k:Int):Prop:=(smayB f=false∧c=2)∨c=3∨(c=0∧smayB f=true∧∀m∈f.methods,SoundM f m)
theorem ChQ.short {f:Fi} {w:World} {e:Ending} {w':World} (h:ChQ f w e w'):∃S n s c k,e=.returned (.tuple #[.slice S n s,fltV c k])∧ChP f c k∧Bl w w':=by
 rcases h.2 with ⟨h1,h2⟩|⟨k,h1⟩|⟨S,n,s,h1,h2,h3⟩
 ·exact ⟨_,_,_,2,0,h2,Or.inl ⟨h1,rfl⟩,h.1⟩
 ·exact ⟨_,_,_,3,k,h1,Or.inr (Or.inl rfl),h.1⟩
 ·exact ⟨S,n,s,0,0,h1,Or.inr (Or.inr ⟨rfl,h2,h3⟩),h.1⟩
theorem fstates_any (f:Fi) (A B:Option Addr) (a b:Nat) (w:World) (hA:ClsAt w A f.classes) (hB:MesAt w B f.methods) :
  Calls Tryz.prog 28 #[fiV f.classes.length f.methods.length A B a b] w fun e w'=>∃S n s c k,e=.returned (.tuple #[.slice S n s,fltV c k])∧ChP f c k∧Bl w w':=by
 have BW:Hid (Bl w ((w.alloc (.cells #[.slice A f.classes.length a,.slice B f.methods.length b] 25)).alloc (.cells #[.int .i64 0,.int .i64 0,.int .i64 0] 36))):=((Bl.refl w).alloc _).alloc _
 have ZX:Hid (((w.alloc (.cells #[.slice A f.classes.length a,.slice B f.methods.length b] 25)).alloc (.cells #[.int .i64 0,.int .i64 0,.int .i64 0] 36)).heap[w.heap.size+1]?=some (.cells #[.int .i64 0,.int .i64 0,.int .i64 0] 36 (0,0))):=mblk (by simp)
 have K:=hid (fcheck_any f A B a b _ (hA.bl BW.out) (hB.bl BW.out))
 clear hA hB
 go_enter Tryz.func28,Tryz.ntmps28
 go_wp2_with (go_at_call 61;refine K.out.mono ?_;intro e w2 hq;obtain ⟨S,n,s,c,k,rfl,q2,b2⟩:=hq.short;have X2:=hid (bl_blk b2 ZX.out);have x0:=cell_blk (i:=0) X2.out;have x1:=cell_blk (i:=1) X2.out;have x2:=cell_blk (i:=2) X2.out;have hx:=lt_some X2.out;have fx:=free_blk X2.out;have B2:=hid (BW.out.trans b2);have Q2:=hid q2;clear b2 hq q2)
 refine bodyPost_ret (results_tmp_cell rfl _ _ (w.heap.size+1) _ _ _ _ (.slice S n s) rfl rfl (set_3f X2.out _ _ _) Tryz.underlying36 rfl info_flt) rfl ?_
 exact ⟨S,n,s,c,k,rfl,Q2.out,bl_3f B2.out (by omega) _ _ _⟩
theorem scheck_any (f:Fi) (A B:Option Addr) (a b:Nat) (w:World) (hA:ClsAt w A f.classes) (hB:MesAt w B f.methods) :
  Calls Tryz.prog 11 #[fiV f.classes.length f.methods.length A B a b] w fun e w'=>∃c k,e=.returned (fltV c k)∧ChP f c k∧Bl w w':=by
 have BW:Hid (Bl w ((w.alloc (.cells #[.slice A f.classes.length a,.slice B f.methods.length b] 25)).alloc (.cells #[.int .i64 0,.int .i64 0,.int .i64 0] 36))):=((Bl.refl w).alloc _).alloc _
 have ZX:Hid (((w.alloc (.cells #[.slice A f.classes.length a,.slice B f.methods.length b] 25)).alloc (.cells #[.int .i64 0,.int .i64 0,.int .i64 0] 36)).heap[w.heap.size+1]?=some (.cells #[.int .i64 0,.int .i64 0,.int .i64 0] 36 (0,0))):=mblk (by simp)
 have K:=hid (fstates_any f A B a b _ (hA.bl BW.out) (hB.bl BW.out))
 clear hA hB
 go_enter Tryz.func11,Tryz.ntmps11
 go_wp2_with (go_at_call 28;refine K.out.mono ?_;rintro e w2 ⟨S,n,s,c,k,rfl,q2,b2⟩;have X2:=hid (bl_blk b2 ZX.out);have x0:=cell_blk (i:=0) X2.out;have x1:=cell_blk (i:=1) X2.out;have x2:=cell_blk (i:=2) X2.out;have hx:=lt_some X2.out;have fx:=free_blk X2.out;have B2:=hid (BW.out.trans b2);have Q2:=hid q2;clear b2 q2)
 refine bodyPost_ret (results_cell_row rfl _ _ (w.heap.size+1) _ _ _ _ rfl (bl_blk ((Bl.refl _).alloc _) (set_3f X2.out _ _ _)) Tryz.underlying36 rfl info_flt) rfl ?_
 exact ⟨c,k,rfl,Q2.out,(bl_3f B2.out (by omega) _ _ _).alloc _⟩
theorem smay_checked {f:Fi} (h:smayB f=true) (so:∀m∈f.methods,SoundM f m):Checked f:=by
 unfold smayB at h
 rw [Bool.and_eq_true,Bool.and_eq_true,List.all_eq_true] at h
 exact ⟨h.1.1,h.2,so⟩
theorem ss_walk (f:Fi) (A B R I:Option Addr) (a b r i:Nat) (entry fuel:Int) (args input:List Int) (w:World) (hA:ClsAt w A f.classes) (hB:MesAt w B f.methods) (hI:IntsAt w I input) (hR:IntsAt w R args) :
  Calls Tryz.prog 5 #[fiV f.classes.length f.methods.length A B a b,.int .i64 entry,.slice R args.length r,.slice I input.length i,.int .i64 fuel] w fun e w'=>e=.returned (.bool true)∧Bl w w':=by
 have BW:Hid (Bl w (w.alloc (.cells #[.slice A f.classes.length a,.slice B f.methods.length b] 25))):=(Bl.refl w).alloc _
 have ZF:Hid ((w.alloc (.cells #[.slice A f.classes.length a,.slice B f.methods.length b] 25)).heap[w.heap.size]?=some (.cells #[.slice A f.classes.length a,.slice B f.methods.length b] 25 (0,0))):=mblk rfl
 have HC:=hid (scheck_any f A B a b _ (hA.bl BW.out) (hB.bl BW.out))
 have HM:Hid (∀w',Bl w w'→smayB f=true→Calls Tryz.prog 8 #[fiV f.classes.length f.methods.length A B a b] w' fun e w2=>e=.returned (.bool true)∧Bl w' w2):=fun w' hb hm=>by
  have:=rsmay_any f A B a b w' (hA.bl hb) (hB.bl hb)
  rw [hm] at this
  exact this
 have HP:Hid (∀w',Bl w w'→smayB f=true→(∀m∈f.methods,SoundM f m)→Calls Tryz.prog 10 #[fiV f.classes.length f.methods.length A B a b,.int .i64 entry,.slice R args.length r,.slice I input.length i,.int .i64 fuel] w' fun e w2=>∃(s:Sh) (S:Option Addr) (n k:Nat) (E:Int),e=.returned (.tuple #[shV s (.slice S n k),.int .i64 E])∧s.fin≠6∧Bl w' w2):=fun w' hb hm so=>by
  by_cases hE:beginE f entry args input fuel=0
  ·refine (play_ok f A B I R a b i r entry fuel args input w' (hA.bl hb) (hB.bl hb) (hI.bl hb) (hR.bl hb) hm hE).mono ?_
   rintro e w2 ⟨vx,rfl,ow,b2⟩
   obtain ⟨xa,xc,hv,-,-⟩:=own_formT ow
   obtain ⟨-,e1,e2,e3,e4⟩:=begin_fine f A B I R a b i r entry fuel args input w' w' (Bl.refl w') (hB.bl hb) hI.1 (hR.bl hb) hm hE
   exact ⟨_,_,_,_,_,by rw [hv],play_safe f (smay_checked hm so) entry fuel args input e1 e2.1 e3 e4,b2⟩
  ·refine (play_bad f A B I R a b i r entry fuel args input w' (hB.bl hb) hI.1 (hR.bl hb) hm hE).mono ?_
   rintro e w2 ⟨rfl,b2⟩
   exact ⟨sh0,none,0,0,_,rfl,by decide,b2⟩
 clear hA hB hI hR
 by_cases h1:3000<fuel
 all_goals
  go_enter Tryz.func5,Tryz.ntmps5
  go_wp2_with (first
   | (go_at_call 11;refine HC.out.mono ?_;rintro e w2 ⟨c,k,rfl,q2,b2⟩;have F2:=hid (bl_blk b2 ZF.out);have z0:=(cell_blk (i:=0) F2.out).trans rfl;have z1:=(cell_blk (i:=1) F2.out).trans rfl;have hz:=lt_some F2.out;have B2:=hid (BW.out.trans b2);rcases q2 with ⟨q3,rfl⟩|rfl|⟨rfl,hm,so⟩;all_goals (try (have SM:=hid hm;have SO:=hid so;clear hm so));all_goals (clear b2))
   | (go_at_call 8;refine (HM.out _ (B2.out.alloc _) SM.out).mono ?_;rintro e w3 ⟨rfl,b3⟩;have F3:=hid (bl_blk b3 (bl_blk ((Bl.refl w2).alloc _) F2.out));have y0:=(cell_blk (i:=0) F3.out).trans rfl;have y1:=(cell_blk (i:=1) F3.out).trans rfl;have hy:=lt_some F3.out;have B3:=hid ((B2.out.alloc _).trans b3);clear b3)
   | (go_at_call 10;refine (HP.out _ B3.out SM.out SO.out).mono ?_;rintro e w4 ⟨s,S,n,kk,E,rfl,h6,b4⟩;have hs6:(s.fin !=6)=true:=(by simpa using h6);have B4:=hid (B3.out.trans b4);clear b4 h6))
 all_goals go_ret
 all_goals first
  | exact ⟨rfl,B4.out.alloc _⟩
  | exact ⟨rfl,B2.out.alloc _⟩
end Go.Proofs.YtgiiapenmjollaaGreat
