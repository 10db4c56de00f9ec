import Derived.Test.YtgiiapenmjollabGreatRsba
import Derived.Test.YtgiiapenmjollabGreatRsbm
namespace Go.Proofs.YtgiiapenmjollabGreat
set_option linter.all false
set_option maxHeartbeats 40000000
set_option maxRecDepth 100000
open Go.RowKit
section
section
variable {X:Nat→Prop} {wx w0 w1:World} {g:Gf} {b0:Nat} {w:World} {cur:As} {at':Int} {st:List (Option As)} {wt:List Int} {f:Fi} {m:Me}
theorem DQ.imp {sl:List Ty} {P Q:List (Option As)→Prop} {e:Ending} {w':World} (h:DQ f m X wx w0 w1 g b0 at' st wt sl P e w') (hpq:∀st',P st'→Q st'):DQ f m X wx w0 w1 g b0 at' st wt sl Q e w':=by
 obtain ⟨wx',h0,h⟩:=h
 rcases h with h|⟨cur',st',wt',hv',h1,h2,h3,h4,h5,h6,h7⟩
 ·exact ⟨wx',h0,Or.inl h⟩
 ·exact ⟨wx',h0,Or.inr ⟨cur',st',wt',hv',h1,h2,h3,h4,h5,h6,hpq _ h7⟩⟩
def DN (f:Fi) (m:Me) (X:Nat→Prop) (wx w0 w1:World) (g:Gf) (b0:Nat) (k:Nat) (st:List (Option As)) (wt:List Int) (cur:As) (e:Ending) (w':World):Prop :=
 ∃wx',(∀b,X b→b≠g.q→wx'.heap[b]?=wx.heap[b]?)∧((e=upE∧FE X wx' w1 g w')∨∃cur' st' wt' hv',e=.returned (.tuple #[])∧FX X wx' w1 g b0 w' cur' (k:Nat) st' wt'∧Qx X wx' w0 g f hv'∧Gs f m st' wt'∧Led f.classes st wt st' wt'∧StepAt f m st' k cur)
theorem qdo_out (k:Nat) (hk:k<m.code.length) (Z:Dx f m X wx w0 w1 g b0 w cur (k:Nat) st wt) (A0:Option Addr) (k0:Nat) (hI:IntsAt w0 A0 (nth in0 m.code k).args) :
  Calls Tryz.prog 157 #[.pointer (some ⟨g.q,0,none⟩),insV (nth in0 m.code k).op (nth in0 m.code k).a (nth in0 m.code k).b (nth in0 m.code k).c (nth in0 m.code k).n (.slice A0 (nth in0 m.code k).args.length k0)] w fun e w'=>DQ f m X wx w0 w1 g b0 (k:Nat) st wt cur.slots (fun st'=>OutOk f m st' k cur (nth in0 m.code k)) e w':=by
 have hco:=(smeP Z.C.me).2.2.2.2.2.2.1
 have ok:InOk f.classes f.methods m.code.length m.regs m.ret.kind (nth in0 m.code k):=rin_ok (hco _ (nth_mem hk))
 clear hco hk
 generalize nth in0 m.code k=i at *
 have oka:=ok.a
 have okc:=ok.c
 have okk:=ok.call
 have okg:=ok.args
 have okr:=ok.ret
 obtain ⟨op,a,b,c,n,args⟩:=i
 have e1:(((k+1:Nat):Nat):Int)=(k:Int)+1:=by omega
 unfold OutOk
 dsimp only at *
 rw [e1]
 by_cases h10:op=10
 ·subst h10
  exact (qdo10 Z a b c n A0 _ k0).mono fun e w' h=>h.imp fun st' q=>by rw [if_pos rfl];exact q
 by_cases h11:op=11
 ·subst h11
  have o:=okc (by decide)
  obtain ⟨D,rfl⟩:∃D:Nat,c=D:=⟨c.toNat,by omega⟩
  exact (qdo11 Z a b D n A0 _ k0 o.2).mono fun e w' h=>h.imp fun st' q=>by rw [if_neg (by decide),if_pos rfl];exact q
 by_cases h12:op=12
 ·subst h12
  have o:=okc (by decide)
  obtain ⟨D,rfl⟩:∃D:Nat,c=D:=⟨c.toNat,by omega⟩
  exact (qdo12 Z a b D n A0 _ k0 o.2).mono fun e w' h=>h.imp fun st' q=>by rw [if_neg (by decide),if_neg (by decide),if_pos rfl];exact q
 by_cases h18:op=18
 ·subst h18
  have o:=okk rfl
  have og:=okg rfl
  obtain ⟨E,rfl⟩:∃E:Nat,a=E:=⟨a.toNat,by omega⟩
  rw [Int.toNat_natCast] at o
  refine (qdo18 Z E b c n args A0 k0 hI (by omega) o.2.2 og).mono fun e w' h=>h.imp fun st' q=>?_
  rw [if_neg (by decide),if_neg (by decide),if_neg (by decide),if_pos rfl,Int.toNat_natCast]
  exact q
 by_cases h20:op=20
 ·subst h20
  exact (qdo20 Z a b c n A0 _ k0 (okr rfl)).mono fun e w' h=>h.imp fun st' q=>by rw [if_neg (by decide),if_neg (by decide),if_neg (by decide),if_neg (by decide),if_pos rfl];exact q
 by_cases h21:op=21
 ·subst h21
  have o:=oka (by decide)
  obtain ⟨E,rfl⟩:∃E:Nat,a=E:=⟨a.toNat,by omega⟩
  exact (qdo21 Z E b c n A0 _ k0 o.2).mono fun e w' h=>h.imp fun st' q=>by rw [if_neg (by decide),if_neg (by decide),if_neg (by decide),if_neg (by decide),if_neg (by decide),if_pos rfl];exact q
 simp only [if_neg h10,if_neg h11,if_neg h12,if_neg h18,if_neg h20,if_neg h21]
 exact (qdoW Z op a b c n args A0 _ k0 ok ⟨h10,h11,h12,h18,h20,h21⟩).mono fun e w' h=>h.imp fun st' q=>q
theorem qdo_any (k:Nat) (hk:k<m.code.length) (Z:Dx f m X wx w0 w1 g b0 w cur (k:Nat) st wt) (A0:Option Addr) (k0:Nat) (hI:IntsAt w0 A0 (nth in0 m.code k).args) :
  Calls Tryz.prog 157 #[.pointer (some ⟨g.q,0,none⟩),insV (nth in0 m.code k).op (nth in0 m.code k).a (nth in0 m.code k).b (nth in0 m.code k).c (nth in0 m.code k).n (.slice A0 (nth in0 m.code k).args.length k0)] w fun e w'=>DN f m X wx w0 w1 g b0 k st wt cur e w':=by
 refine (qdo_out k hk Z A0 k0 hI).mono ?_
 rintro e w' ⟨wx',h0,h|⟨cur',st',wt',hv',h1,h2,h3,h4,h5,h6,h7⟩⟩
 ·exact ⟨wx',h0,Or.inl h⟩
 ·refine ⟨wx',h0,Or.inr ⟨cur',st',wt',hv',h1,h2,h3,h4,h5,⟨fun x hx q1 q2=>h6 x ?_,h7⟩⟩⟩
  unfold overL
  rw [List.mem_filter]
  exact ⟨hx,decide_eq_true (by omega)⟩
end
end
structure Iv (f:Fi) (m:Me) (s0:As) (st:List (Option As)) (wt:List Int):Prop where
 gs:Gs f m st wt
 len:st.length=m.code.length
 all:∀k s,nth none st k=some s→(k:Int)∈wt∨StepAt f m st k s
 first:Leads f.classes st 0 s0
theorem LeadH.led {cs:List Cl} {m:Me} (ht:Tree cs) {s1 s2:List (Option As)} {w1 w2:List Int} (h:Led cs s1 w1 s2 w2) {t op:Int} {v:Ty} {sl:List Ty} (q:LeadH cs m s1 t op v sl):LeadH cs m s2 t op v sl:=⟨fun x=>h.leads ht (q.1 x),fun x=>h.leads ht (q.2 x)⟩
theorem StepAt.led {f:Fi} {m:Me} (ht:Tree f.classes) {s1 s2:List (Option As)} {w1 w2:List Int} (h:Led f.classes s1 w1 s2 w2) {k:Nat} {s:As} (q:StepAt f m s1 k s):StepAt f m s2 k s:=by
 refine ⟨fun x hx a b=>(q.hands x hx a b).led ht h,?_⟩
 have o:=q.out
 unfold OutOk at o ⊢
 split at o
 ·rename_i c;rw [if_pos c];exact h.leads ht o
 ·rename_i c1;rw [if_neg c1]
  split at o
  ·rename_i c;rw [if_pos c];exact ⟨o.1,h.leads ht o.2.1,h.leads ht o.2.2⟩
  ·rename_i c2;rw [if_neg c2]
   split at o
   ·rename_i c;rw [if_pos c];exact ⟨o.1,h.leads ht o.2.1,h.leads ht o.2.2⟩
   ·rename_i c3;rw [if_neg c3]
    split at o
    ·rename_i c;rw [if_pos c];exact ⟨o.1,fun x=>h.leads ht (o.2.1 x),fun x=>(o.2.2 x).led ht h⟩
    ·rename_i c4;rw [if_neg c4]
     split at o
     ·rename_i c;rw [if_pos c];exact o
     ·rename_i c5;rw [if_neg c5]
      split at o
      ·rename_i c;rw [if_pos c];exact o
      ·rename_i c6;rw [if_neg c6]
       obtain ⟨p,e,a⟩:=o
       exact ⟨p,e,h.leads ht a⟩
theorem Gs.tail {f:Fi} {m:Me} {st:List (Option As)} {x:Int} {r:List Int} (G:Gs f m st (x::r)):Gs f m st r :=
 ⟨G.wf,G.srt.of_cons,fun y hy=>G.rng y (List.mem_cons_of_mem _ hy),G.stl,G.loc,fun y hy=>G.has y (List.mem_cons_of_mem _ hy)⟩
theorem Iv.next {f:Fi} {m:Me} {s0:As} (ht:Tree f.classes) {st st':List (Option As)} {k:Nat} {r wt':List Int} {s:As} (I:Iv f m s0 st ((k:Int)::r)) (hs:nth none st k=some s) (G:Gs f m st' wt') (L:Led f.classes st r st' wt') (S:StepAt f m st' k s):Iv f m s0 st' wt'∧Mh st' wt'<Mh st ((k:Int)::r):=by
 refine ⟨⟨G,L.len.trans I.len,fun j u hu=>?_,L.leads ht I.first⟩,?_⟩
 ·rcases L.new j with e|e
  ·rw [e] at hu
   rcases I.all j u hu with q|q
   ·rcases List.mem_cons.1 q with q|q
    ·have:j=k:=by omega
     subst this
     rw [hs] at hu
     have:=Option.some.inj hu
     subst this
     exact Or.inr S
    ·exact Or.inl (L.keep _ q)
   ·exact Or.inr (q.led ht L)
  ·exact Or.inl e
 ·have:=L.ms
  unfold Mh at this ⊢
  rw [List.length_cons]
  omega
theorem nth_none_rep (n k:Nat):nth (none:Option As) (List.replicate n none) k=none:=by
 simp [nth,List.getD,List.getElem?_replicate]
 split<;>rfl
theorem Iv.start {f:Fi} {m:Me} {s0:As} {st':List (Option As)} {wt':List Int} (G:Gs f m st' wt') (L:Led f.classes (List.replicate m.code.length none) [] st' wt') (h0:Leads f.classes st' 0 s0):Iv f m s0 st' wt':=by
 refine ⟨G,by rw [L.len,List.length_replicate],fun k s hs=>?_,h0⟩
 rcases L.new k with e|e
 ·rw [e,nth_none_rep] at hs;cases hs
 ·exact Or.inl e
theorem Iv.sound {f:Fi} {m:Me} {st:List (Option As)} (I:Iv f m (firstT m m.regs) st []):SoundM f m :=
 ⟨st,I.len,fun k s hs=>⟨(I.gs.wf k s hs).wq.wf,(I.all k s hs).resolve_left (by simp)⟩,I.first⟩
theorem gs_start {f:Fi} {m:Me} (hc:m.code.length≤3000) (hl:0≤m.regs∧m.regs≤3000):Gs f m (List.replicate m.code.length none) [] :=
 ⟨fun k s hs=>by (rw [nth_none_rep] at hs;cases hs),List.Pairwise.nil,fun x hx=>(by cases hx),by simpa using hc,hl,fun x hx=>(by cases hx)⟩
section
theorem min_meas (R:World→Nat→Prop):∃μ:World→Nat,∀w n,R w n→R w (μ w)∧μ w≤n:=by
 have h:∀w,∃k,∀n,R w n→R w k∧k≤n:=fun w=>by
  by_cases hw:∃n,R w n
  ·obtain ⟨n,hn⟩:=hw
   induction n using Nat.strongRecOn with
   | ind n ih =>
    by_cases hlt:∃k,k<n∧R w k
    ·obtain ⟨k,h1,h2⟩:=hlt
     exact ih k h1 h2
    ·exact ⟨n,fun k hk=>⟨hn,Classical.byContradiction fun hc=>hlt ⟨k,by omega,hk⟩⟩⟩
  ·exact ⟨0,fun n hn=>absurd ⟨n,hn⟩ hw⟩
 exact ⟨fun w=>Classical.choose (h w),fun w=>Classical.choose_spec (h w)⟩
section
variable {X:Nat→Prop} {wx w0 w1:World} {g:Gf} {b0:Nat} {w w2:World} {cur s:As} {at':Int} {st:List (Option As)} {wt:List Int} {rv:Nat→Value} {vw:Value} {sp:Nat→Option Nat} {f:Fi} {m:Me}
theorem row_rv {base:Nat} {v:Value} {l:List Ty} (h:w.ownsRow base 243 2 v l.length (tyCs l)) (hl:l.length≤3000):RV w v l:=by
 obtain ⟨A,cap,h1,h2,h3,h4⟩:=rowCell h
 exact ⟨A,cap,h1,hl,h4.elim Or.inl (fun ⟨gb,e,_,_,r⟩=>Or.inr ⟨gb,e,⟨r⟩⟩)⟩
theorem FA.newat (H:FA X wx w1 g b0 w cur at' st wt rv vw sp) (k:Int):FX X wx w1 g b0 (w.setCell ⟨g.p,11,none⟩ (.int .i64 k)) cur k st wt:=by
 have hg:=grown_set (w:=w) g.p 11 (.int .i64 k)
 refine ⟨_,_,_,H.newcur hg.os hg.tape hg.output hg.size (fun b hb hbp _=>hg.block b hb (fun e=>hbp (Option.some.inj e))) (cur':=cur) (at2:=k) (v0:=rv 0) (v1:=rv 1) ?_ ?_ ?_ (fun b e=>Or.inl e) (fun b e=>Or.inr (Or.inl e)) (fun b e=>H.sep 0 1 b (by omega) e)⟩
 ·rw [block_set H.blk];rfl
 ·exact H.row0.kept hg (Or.inr (own_far H.row0 H.blk (by decide)))
 ·exact H.row1.kept hg (Or.inr (own_far H.row1 H.blk (by decide)))
theorem FA.newcopy (H:FA X wx w1 g b0 w cur at' st wt rv vw sp) {v0 v1:Value} (Q:CpQ s v0 v1 w w2):FX X wx w1 g w1.heap.size ((w2.setCell ⟨g.p,0,none⟩ v0).setCell ⟨g.p,1,none⟩ v1) s at' st wt:=by
 have hg:=grown2 w2 g.p 0 1 v0 v1
 have hb:=bl_blk Q.bl H.blk
 refine ⟨_,_,_,H.newcur (hg.os.trans Q.bl.os) (hg.tape.trans Q.bl.tape) (hg.output.trans Q.bl.output) (Nat.le_trans Q.bl.size hg.size) (fun b hb hbp _=>(hg.block b (Nat.lt_of_lt_of_le hb Q.bl.size) (fun e=>hbp (Option.some.inj e))).trans (Q.bl.block b hb)) (cur':=s) (at2:=at') (v0:=v0) (v1:=v1) ?_ ?_ ?_ (fun b e=>Or.inr (Or.inr (Q.r0.lt b e).1)) (fun b e=>Or.inr (Or.inr (Q.r1.lt b e).1)) Q.sep⟩
 ·rw [block_set (block_set hb _)];rfl
 ·exact own_base (Q.r0.kept hg (Or.inr (own_far Q.r0 hb (by decide)))) H.fz.size
 ·exact own_base (Q.r1.kept hg (Or.inr (own_far Q.r1 hb (by decide)))) H.fz.size
structure Bx (X:Nat→Prop) (wx:World) (g:Gf) (pw pd:Nat) (td:TypeId):Prop where
 xw:X pw
 xd:X pd
 bw:wx.heap[pw]?=some (.cells #[.pointer (some ⟨g.p,0,none⟩)] 224 (0,0))
 bd:wx.heap[pd]?=some (.cells #[.func (.func 157) #[.pointer (some ⟨g.q,0,none⟩)] #[]] td (0,0))
 nw:pw≠g.q
 nd:pd≠g.q
theorem Bx.at {pw pd:Nat} {td:TypeId} (B:Bx X wx g pw pd td) (H:FX X wx w1 g b0 w cur at' st wt):w.cell? ⟨pw,0,none⟩=some (.pointer (some ⟨g.p,0,none⟩))∧w.cell? ⟨pd,0,none⟩=some (.func (.func 157) #[.pointer (some ⟨g.q,0,none⟩)] #[]):=by
 obtain ⟨rv,vw,sp,H⟩:=H
 exact ⟨(cell_blk ((H.kept.blk _ B.xw).2.trans B.bw)).trans rfl,(cell_blk ((H.kept.blk _ B.xd).2.trans B.bd)).trans rfl⟩
theorem Bx.turn {wy:World} {pw pd:Nat} {td:TypeId} (B:Bx X wx g pw pd td) (h:∀b,X b→b≠g.q→wy.heap[b]?=wx.heap[b]?):Bx X wy g pw pd td :=
 ⟨B.xw,B.xd,(h _ B.xw B.nw).trans B.bw,(h _ B.xd B.nd).trans B.bd,B.nw,B.nd⟩
def ThR (f:Fi) (m:Me) (X:Nat→Prop) (w0 w1:World) (g:Gf) (pw pd:Nat) (td:TypeId) (s0:As) (w:World) (n:Nat):Prop:=∃wx hv b0 cur at' st wt,Bx X wx g pw pd td∧Qx X wx w0 g f hv∧FX X wx w1 g b0 w cur at' st wt∧Iv f m s0 st wt∧Mh st wt=n
def ThQ (f:Fi) (m:Me) (X:Nat→Prop) (w1:World) (g:Gf) (pw pd:Nat) (td:TypeId) (s0:As) (e:Ending) (w':World):Prop :=
 (e=upE∧∃wx,FE X wx w1 g w')∨∃wx b0 cur at' st,e=.returned (.tuple #[])∧Bx X wx g pw pd td∧FX X wx w1 g b0 w' cur at' st []∧Iv f m s0 st []
theorem fthr1 (C:Cx w0 w1 g f m) (hq1:w1.heap.size≤g.q) (hc:Wn f m cur) (pw pd:Nat) (td:TypeId) (B:Bx X wx g pw pd td) (hv0:Value) (Q0:Qx X wx w0 g f hv0) (h8:m.hands.length≤8) (ho:∀x∈m.hands,(0≤x.til∧x.til≤3000)∧0≤x.cls∧x.cls<f.classes.length) (hcl:m.code.length≤2400) (hlo:0≤m.regs∧m.regs≤3000) (H:FX X wx w1 g b0 w cur at' (List.replicate m.code.length none) []) :
  Calls Tryz.prog 215 #[.pointer (some ⟨pw,0,none⟩),.pointer (some ⟨pd,0,none⟩)] w fun e w'=>ThQ f m X w1 g pw pd td cur e w':=by
 obtain ⟨μ,hμ⟩:=min_meas (ThR f m X w0 w1 g pw pd td cur)
 have HM:=hid hμ
 have H8:=hid h8
 have HC:=hid C
 have HT:=hid (may_tree C.may).1
 have HB:=hid B
 have x0:=(B.at H).1
 have hx0:=cell_lt x0
 have K:=hid (flead_any C 0 H (gs_start (by omega) hlo) hc)
 have HCO:=hid C.code
 have HCL:=hid hcl
 have HQ0:=hid Q0
 have HO:=hid ho
 have HQ1:=hid hq1
 clear C hc B H hμ h8 hlo hcl Q0 ho hq1
 go_enter Tryz.func215,Tryz.ntmps215
 go_wp2_with (go_at_call 216;refine K.out.mono ?_;rintro e w2 (⟨rfl,q⟩|⟨st',wt',rfl,q⟩);exact ⟨rfl,Or.inl ⟨rfl,wx,q⟩⟩;have Q:=hid q;clear q)
 clear K x0 hx0
 go_loopw [] (fun wr=>Hid (∃n,ThR f m X w0 w1 g pw pd td cur wr n)) (fun wr=>μ wr)
 case atStart=>exact ⟨_,wx,hv0,b0,cur,at',st',wt',HB.out,HQ0.out,Q.out.1,Iv.start Q.out.2.1 Q.out.2.2.1 Q.out.2.2.2,rfl⟩
 case round =>
  clear Q HB HQ0
  obtain ⟨n,hn⟩:=hrel.out
  clear hrel
  obtain ⟨wy,hvy,b1,c1,a1,st,wt,By,Qy,F,I,hMh⟩:=(HM.out wr n hn).1
  have HB:=hid By
  have HQ:=hid Qy
  clear By Qy
  clear hn n
  have y0:=(HB.out.at F).1
  have hy0:=cell_lt y0
  have HI:=hid I
  have HMH:=hid hMh
  obtain ⟨rv,vw,sp,F⟩:=F
  cases wt with
  | nil =>
   obtain ⟨A,c,hv,-,-⟩:=own_formT F.wts
   have p13:wr.cell? ⟨g.p,13,none⟩=some (.slice A 0 c):=by rw [cell_blk F.blk,show vw=.slice A 0 c from hv];rfl
   have hp:=cell_lt p13
   have HF:=hid F
   clear F I hMh hv
   go_wp2
   go_end0
   exact Or.inr ⟨wy,b1,c1,a1,st,rfl,HB.out,⟨rv,vw,sp,HF.out⟩,HI.out⟩
  | cons x r =>
   obtain ⟨k,rfl⟩:∃k:Nat,x=k:=⟨x.toNat,by have:=(I.gs.rng x (by simp)).1;omega⟩
   have hkl:k<st.length:=by have:=(I.gs.rng (k:Int) (by simp)).2;omega
   obtain ⟨s,hs⟩:=I.gs.has (k:Int) (by simp)
   rw [Int.toNat_natCast] at hs
   have HS:=hid hs
   have hkc:k<m.code.length:=by rw [←I.len];exact hkl
   have HKL:=hid hkl
   have HKC:=hid hkc
   have hwl:((k:Int)::r).length≤3000:=I.gs.wl
   have HWL:=hid hwl
   have HSL:=hid I.gs.stl
   rcases F.wts.2 with ⟨e,h0⟩|⟨gb,cap,cu,e,-⟩
   ·cases h0
   have hw:=F.wts
   rw [e] at hw
   obtain ⟨-,-,-,-,cu2,-,-,h7⟩:=own_get hw
   have r0:wr.cell? ⟨gb,0,none⟩=some (.int .i64 k):=h7 0 _ rfl
   have hr0:=cell_lt r0
   have p13:wr.cell? ⟨g.p,13,none⟩=some (.slice (some ⟨gb,0,none⟩) ((r.length+1:Nat)) cap):=by rw [cell_blk F.blk,e];rfl
   have p11:wr.cell? ⟨g.p,11,none⟩=some (.int .i64 a1):=by rw [cell_blk F.blk];rfl
   have hp:=cell_lt p13
   have pf:=free_blk F.blk
   have HF:=hid F
   have hlt:(0:Int)<((r.length+1:Nat):Int):=by omega
   have hrl:r.length≤3000:=by simp at hwl;omega
   have N:=hid ((F.newat k).bl (Bl.refl _).drew)
   clear F I hMh hw h7 e hs hkl hkc hwl
   go_wp2
   go_region
   go_wp2
   clear y0 hy0 r0 hr0 p13 p11 hp pf hlt HF
   generalize (wr.setCell ⟨g.p,11,none⟩ (.int .i64 k)).drew=V at *
   obtain ⟨rv2,vw2,sp2,F2⟩:=id N.out
   obtain ⟨A2,q2,hv2,-,-⟩:=own_formT F2.wts
   subst hv2
   have y2:=(HB.out.at N.out).1
   have p13:V.drew.cell? ⟨g.p,13,none⟩=some (.slice A2 ((k:Int)::r).length q2):=by show V.cell? _=_;rw [cell_blk F2.blk];rfl
   have hp:=cell_lt p13
   have HF2:=hid (F2.bl (Bl.refl V).drew)
   clear F2
   refine wp_region_held_drew (S:=fun w'=>w'.cell? ⟨pw,0,none⟩=some (.pointer (some ⟨g.p,0,none⟩))) (by kernel_rfl) ?_ (fun hHeld0=>?_)
   ·exact y2
   clear y2
   iterate 4 (refine tn rfl (by kernel_rfl) (fun _ _ _ h=>h) (by intro _ h;go_split_ands;go_simp<;>with_reducible rfl) hHeld0 ?_;try simp only [aZ])
   refine rd1 (i:=4) (by kernel_rfl) rfl fun K hK=>?_
   go_simp
   refine hK.out _ _ hHeld0 (fun hHeld1=>?_)
   try simp only [aZ]
   clear hK hHeld1
   refine rd1 (i:=5) (by kernel_rfl) rfl fun K hK=>?_
   go_simp
   go_at_call 217
   refine (fdelete _ (k:Int) r V.drew w1.heap.size HF2.out.wts HWL.out).mono ?_
   rintro e w3 ⟨v3,rfl,I3⟩
   obtain ⟨A3,q3,hv3,-,-⟩:=own_formT I3.own
   subst hv3
   have bp3:=(I3.gr.block _ (lt_some HF2.out.blk) (fun e=>own_far HF2.out.wts HF2.out.blk (by decide) e.symm)).trans HF2.out.blk
   have bw3:=(I3.gr.block _ (Nat.lt_of_lt_of_le (HF2.out.kept.blk _ HB.out.xw).1 HF2.out.kept.size) (fun e=>(HF2.out.far _ HB.out.xw).w e.symm)).trans ((HF2.out.kept.blk _ HB.out.xw).2.trans HB.out.bw)
   have npw:pw≠g.p:=(HF2.out.far _ HB.out.xw).p
   have F4:=hid (HF2.out.newwt I3)
   have z13:w3.cell? ⟨g.p,13,none⟩=some (.slice A2 ((k:Int)::r).length q2):=by rw [cell_blk bp3];rfl
   have hz:=cell_lt z13
   have fz:=free_blk bp3
   clear I3 p13 hp
   refine hK.out _ _ ((cell_blk bw3).trans rfl) (fun hHeld1=>?_)
   try simp only [aZ]
   clear hK
   iterate 2 (refine tn rfl (by kernel_rfl) (fun _ _ _ h=>h) (by intro _ h;go_split_ands;go_simp<;>with_reducible rfl) hHeld1 ?_;try simp only [aZ])
   refine rd1 (i:=8) (by kernel_rfl) rfl fun K hK=>?_
   go_simp
   refine hK.out _ _ (by rw [World.cell?_of_block (block_far npw _)];exact (cell_blk bw3).trans rfl) (fun hHeld2=>?_)
   try simp only [aZ]
   clear hK hHeld0 hHeld1 hHeld2 bp3 bw3 z13 hz fz
   refine wpAnyH_done (by kernel_rfl) ?_ _
   go_wp2
   generalize w3.setCell ⟨g.p,13,none⟩ (.slice A3 r.length q3)=V4 at *
   clear HF2 N
   have G4:=hid (HI.out.gs.tail)
   obtain ⟨b,hb⟩:∃b,sp2 k=some b:=by
    cases hsp:sp2 k with
    | none=>have:=F4.out.stn k hsp;rw [HS.out] at this;cases this
    | some b=>exact ⟨b,rfl⟩
   have y4:=(HB.out.at ⟨_,_,_,F4.out⟩).1
   have hkl:=HKL.out
   have hk0:¬(k:Int)<0:=by omega
   have hk1:(k:Int)<(st.length:Int):=by omega
   have s4:V4.cell? ⟨g.sb,k,none⟩=some (.pointer (some ⟨b,0,none⟩)):=by rw [F4.out.sbc hkl,hb];rfl
   have p12:=F4.out.p12
   have p11:V4.cell? ⟨g.p,11,none⟩=some (.int .i64 k):=by rw [cell_blk F4.out.blk];rfl
   have hp:=cell_lt p12
   have nsb:=F4.out.psb
   refine wp_region_held_drew (S:=fun w'=>w'.cell? ⟨pw,0,none⟩=some (.pointer (some ⟨g.p,0,none⟩))∧w'.cell? ⟨g.p,11,none⟩=some (.int .i64 k)∧w'.cell? ⟨g.p,12,none⟩=some (.slice (some ⟨g.sb,0,none⟩) st.length g.sc)∧w'.cell? ⟨g.sb,k,none⟩=some (.pointer (some ⟨b,0,none⟩))) (by kernel_rfl) ?_ (fun hHeld0=>?_)
   ·exact ⟨y4,p11,p12,s4⟩
   clear y4 p11 p12 s4
   iterate 11 (refine tn rfl (by kernel_rfl) (fun _ _ _ h=>h) (by intro _ h;go_split_ands;go_simp<;>with_reducible rfl) hHeld0 ?_;try simp only [aZ])
   refine rd1 (i:=11) (by kernel_rfl) rfl fun K hK=>?_
   go_simp
   go_at_call 218
   have F5:=hid (F4.out.bl (Bl.refl V4).drew)
   have hst:=F5.out.sts k b hb
   have hwn:=HI.out.gs.wf k s HS.out
   have RV0:RV V4.drew (rv2 (2+2*k)) s.slots:=row_rv (by have:=F5.out.rows (2+2*k) (by omega);rw [rtF_slots HS.out] at this;exact this) (by have:=hwn.wq.wf.len;have:=HI.out.gs.loc;omega)
   have RV1:RV V4.drew (rv2 (3+2*k)) s.stk:=row_rv (by have:=F5.out.rows (3+2*k) (by omega);rw [rtF_stk HS.out] at this;exact this) (by have:=hwn.wq.len;omega)
   refine (fcopied_any b s _ _ V4.drew hst.2.2.2 RV0 RV1).mono ?_
   rintro e w5 ⟨v0,v1,rfl,Q⟩
   obtain ⟨a0,q0,hv0,-,-⟩:=own_formT Q.r0
   subst hv0
   obtain ⟨a1',q1,hv1,-,-⟩:=own_formT Q.r1
   subst hv1
   have F6:=hid (F5.out.newcopy Q)
   have K5:=F5.out.bl Q.bl
   have bw5:=(K5.kept.blk _ HB.out.xw).2.trans HB.out.bw
   have p5:=K5.blk
   have s5:w5.cell? ⟨g.sb,k,none⟩=some (.pointer (some ⟨b,0,none⟩)):=by rw [K5.sbc hkl,hb];rfl
   have z0:=K5.p0
   have z1:w5.cell? ⟨g.p,1,none⟩=some (rv2 1):=by rw [cell_blk p5];rfl
   have hz:=lt_some p5
   have fz:=free_blk p5
   clear RV0 RV1 hst hwn Q
   refine hK.out _ _ ⟨(cell_blk bw5).trans rfl,by rw [cell_blk p5];rfl,K5.p12,s5⟩ (fun hHeld1=>?_)
   try simp only [aZ]
   clear hK
   iterate 2 (refine tn rfl (by kernel_rfl) (fun _ _ _ h=>h) (by intro _ h;go_split_ands;go_simp<;>with_reducible rfl) hHeld1 ?_;try simp only [aZ])
   refine rd1 (i:=14) (by kernel_rfl) rfl fun K hK=>?_
   go_simp
   refine hK.out _ _ ⟨by rw [World.cell?_of_block (block_far npw _),World.cell?_of_block (block_far npw _)];exact (cell_blk bw5).trans rfl,F6.out.pc.2.2.2.2.2.2.1,F6.out.pc.2.2.2.2.2.2.2.1,by rw [World.cell?_of_block (block_far (Ne.symm nsb) _),World.cell?_of_block (block_far (Ne.symm nsb) _)];exact s5⟩ (fun hHeld2=>?_)
   try simp only [aZ]
   clear hK hHeld0 hHeld1 hHeld2 bw5 p5 s5 z0 z1 hz fz K5 F5 F4 hk1
   refine wpAnyH_done (by kernel_rfl) ?_ _
   go_wp2
   generalize (w5.setCell ⟨g.p,0,none⟩ (.slice a0 s.slots.length q0)).setCell ⟨g.p,1,none⟩ (.slice a1' s.stk.length q1)=V6 at *
   obtain ⟨cA,cc,e9,hI9⟩:=HCO.out
   have hkc:=HKC.out
   rcases hI9.2 with h0|⟨cb,co,eA,hcell⟩
   ·omega
   subst eA
   obtain ⟨d0,d1,d2,d3,d4,-,A9,c9,d5,dI⟩:=hcell k hkc
   have HDI:=hid dI
   have SS:Hid (∀wz b0 cur at' st wt w',Bx X wz g pw pd td→FX X wz w1 g b0 w' cur at' st wt→w'.cell? ⟨pd,0,none⟩=some (.func (.func 157) #[.pointer (some ⟨g.q,0,none⟩)] #[])∧w'.cell? ⟨pw,0,none⟩=some (.pointer (some ⟨g.p,0,none⟩))∧w'.cell? ⟨g.p,9,none⟩=some (.slice (some ⟨cb,co,none⟩) m.code.length cc)∧w'.cell? ⟨g.p,11,none⟩=some (.int .i64 at')∧w'.cell? ⟨cb,co+k*6,none⟩=some (.int .i64 (nth in0 m.code k).op)∧w'.cell? ⟨cb,co+k*6+1,none⟩=some (.int .i64 (nth in0 m.code k).a)∧w'.cell? ⟨cb,co+k*6+2,none⟩=some (.int .i64 (nth in0 m.code k).b)∧w'.cell? ⟨cb,co+k*6+3,none⟩=some (.int .i64 (nth in0 m.code k).c)∧w'.cell? ⟨cb,co+k*6+4,none⟩=some (.int .i64 (nth in0 m.code k).n)∧w'.cell? ⟨cb,co+k*6+5,none⟩=some (.slice A9 (nth in0 m.code k).args.length c9)):=fun wz b0 cur at' st wt w' Bz h=>by
    have bl:=HC.out.bl0 h
    exact ⟨(Bz.at h).2,(Bz.at h).1,by rw [←e9];exact h.pc.2.2.2.2.1,h.pc.2.2.2.2.2.2.1,bl.cell d0,bl.cell d1,bl.cell d2,bl.cell d3,bl.cell d4,bl.cell d5⟩
   have hk2:(k:Int)<(m.code.length:Int):=by omega
   have hlk:∀b0 cur at' st wt w',FX X wy w1 g b0 w' cur at' st wt→pd<w'.heap.size∧pw<w'.heap.size∧g.p<w'.heap.size∧cb<w'.heap.size:=fun b0 cur at' st wt w' h=>⟨cell_lt (HB.out.at h).2,cell_lt (HB.out.at h).1,cell_lt h.pc.1,cell_lt ((HC.out.bl0 h).cell d0)⟩
   replace hlk:=hid hlk
   obtain ⟨l1,l2,l3,l4⟩:=hlk.out _ _ _ _ _ _ F6.out
   clear d0 d1 d2 d3 d4 d5 dI hcell hI9 e9
   refine wp_region_held_drew (S:=fun w'=>w'.cell? ⟨pd,0,none⟩=some (.func (.func 157) #[.pointer (some ⟨g.q,0,none⟩)] #[])∧w'.cell? ⟨pw,0,none⟩=some (.pointer (some ⟨g.p,0,none⟩))∧w'.cell? ⟨g.p,9,none⟩=some (.slice (some ⟨cb,co,none⟩) m.code.length cc)∧w'.cell? ⟨g.p,11,none⟩=some (.int .i64 k)∧w'.cell? ⟨cb,co+k*6,none⟩=some (.int .i64 (nth in0 m.code k).op)∧w'.cell? ⟨cb,co+k*6+1,none⟩=some (.int .i64 (nth in0 m.code k).a)∧w'.cell? ⟨cb,co+k*6+2,none⟩=some (.int .i64 (nth in0 m.code k).b)∧w'.cell? ⟨cb,co+k*6+3,none⟩=some (.int .i64 (nth in0 m.code k).c)∧w'.cell? ⟨cb,co+k*6+4,none⟩=some (.int .i64 (nth in0 m.code k).n)∧w'.cell? ⟨cb,co+k*6+5,none⟩=some (.slice A9 (nth in0 m.code k).args.length c9)) (by kernel_rfl) ?_ (fun hHeld0=>?_)
   ·exact SS.out _ _ _ _ _ _ _ HB.out (F6.out.bl (Bl.refl _).drew)
   iterate 12 (refine tn rfl (by kernel_rfl) (fun _ _ _ h=>h) (by intro _ h;go_split_ands;go_simp<;>with_reducible rfl) hHeld0 ?_;try simp only [aZ])
   refine rd1 (i:=12) (by kernel_rfl) rfl fun K hK=>?_
   go_simp
   go_at_call 157
   refine (qdo_any k hkc (w:=V6.drew) (b0:=w1.heap.size) ⟨HC.out,HQ1.out,⟨hvy,HQ.out⟩,F6.out.bl (Bl.refl V6).drew,G4.out,HI.out.gs.wf k s HS.out,by have:=HCL.out;omega,H8.out,HO.out,Nat.le_refl _⟩ A9 c9 HDI.out).mono ?_
   rintro e w7 ⟨wx2,hsame,⟨rfl,q⟩|⟨cur',st',wt',hv',rfl,f7,q7,g7,l7,s7⟩⟩
   ·exact ⟨rfl,Or.inl ⟨rfl,wx2,q⟩⟩
   have B7:=hid (HB.out.turn hsame)
   have Q7:=hid q7
   have NX:=hid (HI.out.next HT.out HS.out g7 l7 s7)
   have F7:=hid f7
   refine hK.out _ _ (SS.out _ _ _ _ _ _ _ B7.out f7) (fun hHeld1=>?_)
   try simp only [aZ]
   clear hK hHeld0 hHeld1 f7 q7 g7 l7 s7 l1 l2 l3 l4
   refine wpAnyH_done (by kernel_rfl) ?_ _
   go_wp2
   go_roundw
   case rel=>exact ⟨_,wx2,hv',_,cur',_,st',wt',B7.out,Q7.out,F7.out,NX.out.1,rfl⟩
   case measure =>
    have h1:=(HM.out w7 _ ⟨wx2,hv',_,cur',_,st',wt',B7.out,Q7.out,F7.out,NX.out.1,rfl⟩).2
    have h2:=NX.out.2
    have h3:=HMH.out
    omega
end
end
section
section
variable {X:Nat→Prop} {wx w0 w1:World} {g:Gf} {b0:Nat} {w w2:World} {cur s:As} {at':Int} {st:List (Option As)} {wt:List Int} {f:Fi} {m:Me}
def TrQ (f:Fi) (m:Me) (w1:World) (g:Gf) (s0:As) (e:Ending) (w':World):Prop :=
 (e=.returned (.tuple #[.slice none 0 0,.bool false])∧∃X wx,FE X wx w1 g w')∨∃X wx b0 cur at' st,e=.returned (.tuple #[.slice (some ⟨g.sb,0,none⟩) st.length g.sc,.bool true])∧FX X wx w1 g b0 w' cur at' st []∧Iv f m s0 st []
theorem fthr_any (C:Cx w0 w1 g f m) (hq1:w1.heap.size≤g.q) (hc:Wn f m cur) (hv0:Value) (Q0:Qx X wx w0 g f hv0) (h8:m.hands.length≤8) (ho:∀x∈m.hands,(0≤x.til∧x.til≤3000)∧0≤x.cls∧x.cls<f.classes.length) (hcl:m.code.length≤2400) (hlo:0≤m.regs∧m.regs≤3000) (H:FX X wx w1 g b0 w cur at' (List.replicate m.code.length none) []) :
  Calls Tryz.prog 156 #[.pointer (some ⟨g.p,0,none⟩),.func (.func 157) #[.pointer (some ⟨g.q,0,none⟩)] #[]] w fun e w'=>TrQ f m w1 g cur e w':=by
 have hmf:∀(fn:Fn) (first cap:Array Value) (w:World),(Instr.makeFunc fn first cap).run Tryz.prog w=.ok (.func fn first cap) w:=fun _ _ _ _=>rfl
 obtain ⟨Aq,cq,hqb,-⟩:=Q0.at H
 have hql:=lt_some hqb
 have BW:Hid (Bl w ((w.alloc (.cells #[.pointer (some ⟨g.p,0,none⟩)] 224)).alloc (.cells #[.func (.func 157) #[.pointer (some ⟨g.q,0,none⟩)] #[]] 211))):=((Bl.refl w).alloc _).alloc _
 have HW:=hid (H.wide BW.out)
 have hs:((w.alloc (.cells #[.pointer (some ⟨g.p,0,none⟩)] 224)).alloc (.cells #[.func (.func 157) #[.pointer (some ⟨g.q,0,none⟩)] #[]] 211)).heap.size=w.heap.size+1+1:=by simp
 have HB:Hid (Bx (Xf X w.heap.size ((w.alloc (.cells #[.pointer (some ⟨g.p,0,none⟩)] 224)).alloc (.cells #[.func (.func 157) #[.pointer (some ⟨g.q,0,none⟩)] #[]] 211)).heap.size) ((w.alloc (.cells #[.pointer (some ⟨g.p,0,none⟩)] 224)).alloc (.cells #[.func (.func 157) #[.pointer (some ⟨g.q,0,none⟩)] #[]] 211)) g w.heap.size (w.heap.size+1) 211) :=
  ⟨Or.inr ⟨Nat.le_refl _,by omega⟩,Or.inr ⟨by omega,by omega⟩,bl_blk ((Bl.refl _).alloc _) (mblk rfl),mblk (by simp),by omega,by omega⟩
 have K:=hid (holds_any (.pointer (some ⟨w.heap.size,0,none⟩)) (.pointer (some ⟨w.heap.size+1,0,none⟩)) _ _ _ (fthr1 C hq1 hc w.heap.size (w.heap.size+1) 211 HB.out hv0 (Q0.wide H BW.out) h8 ho hcl hlo HW.out |>.mono fun e w' (h:ThQ f m _ w1 g _ _ _ cur e w')=>(show (e=upE∧∃wy,FE _ wy w1 g w')∨(e=.returned (.tuple #[])∧∃wy b0 cur' at' st,Bx _ wy g w.heap.size (w.heap.size+1) 211∧FX _ wy w1 g b0 w' cur' at' st []∧Iv f m cur st []) from h.imp id (fun ⟨wy,b0,c,a,st,h1,h2⟩=>⟨h1,wy,b0,c,a,st,h2⟩))))
 clear C hc h8 hcl hlo H hs hqb Q0 ho hq1 hql
 go_enter Tryz.func156,Tryz.ntmps156
 go_wp2_with (go_at_call 214;refine K.out.mono ?_;rintro e w2 (⟨rfl,q⟩|⟨rfl,wy,b1,c1,a1,st1,bx,f1,i1⟩);all_goals try (have y0:=(bx.at f1).1;have hy0:=cell_lt y0;have y1:=f1.pc.2.2.2.2.2.2.2.1;have hy1:=cell_lt y1;have F1:=hid f1;clear f1 bx))
 ·go_ret2
  exact Or.inl ⟨rfl,_,q⟩
 ·go_ret2
  exact Or.inr ⟨_,wy,b1,c1,a1,st1,rfl,F1.out,i1⟩
end
end
theorem set_all {P:Ty→Prop} {l:List Ty} {a:Nat} {v:Ty} (h:∀t∈l,P t) (hv:P v):∀t∈l.set a v,P t:=fun t ht=>by
 rcases List.mem_or_eq_of_mem_set ht with q|q
 ·exact h t q
 ·rw [q];exact hv
theorem losT_all {P:Ty→Prop} {l:List Ty} {a:Nat} (h:∀t∈l,P t) (h0:P ty0):∀t∈losT l a,P t:=by
 unfold losT
 split
 ·exact set_all h h0
 ·split
  ·exact set_all h h0
  ·exact h
theorem wrT_all {P:Ty→Prop} {l:List Ty} {a:Nat} {v:Ty} (h:∀t∈l,P t) (h0:P ty0) (h4:P ⟨4,0⟩) (hv:P v):∀t∈wrT l a v,P t:=by
 unfold wrT
 split
 ·exact set_all (set_all (losT_all (losT_all h h0) h0) h4) hv
 ·exact set_all (losT_all h h0) hv
theorem argsT_all {P:Ty→Prop} (h0:P ty0) (h4:P ⟨4,0⟩):∀(l:List Ty) (l0:List Ty) (at':Nat),(∀t∈l0,P t)→(∀t∈l,P t)→∀t∈argsT l0 at' l,P t
 | [],l0,at',h,_=>h
 | x::l,l0,at',h,hl=>argsT_all h0 h4 l _ _ (wrT_all h h0 h4 (hl x (List.mem_cons_self ..))) (fun t ht=>hl t (List.mem_cons_of_mem _ ht))
theorem first_wn {f:Fi} {m:Me} (hme:rmeB f.classes f.methods m=true):Wn f m (firstT m m.regs):=by
 obtain ⟨-,h2,h1,-,-,-,-,h3,-,-⟩:=smeP hme
 have hl:(firstT m m.regs).slots.length=m.regs.toNat:=by show (argsT _ _ _).length=_;rw [argsT_length,List.length_replicate]
 have rp:∀{P:Ty→Prop},P ty0→∀t∈List.replicate m.regs.toNat ty0,P t:=fun h t ht=>by rw [(List.mem_replicate.1 ht).2];exact h
 refine ⟨⟨⟨by omega,?_,?_,fun t ht=>by cases ht⟩,Nat.zero_le _⟩,⟨?_,fun t ht=>by cases ht⟩⟩
 ·refine argsT_pair _ _ _ (rep_pairT _) (fun t ht=>?_) (by rw [List.length_replicate];omega)
  have:=(tyB_ok (h3 t ht)).2
  omega
 ·refine argsT_all (P:=fun t=>refOk f.classes.length t∧0≤t.kind∧t.kind≤4) ⟨fun e=>absurd e (by decide),by decide,by decide⟩ ⟨fun e=>absurd e (by decide),by decide,by decide⟩ _ _ _ (rp ⟨fun e=>absurd e (by decide),by decide,by decide⟩) (fun t ht=>?_)
  have:=tyB_ok (h3 t ht)
  exact ⟨this.1,by have:=this.2;omega,by have:=this.2;omega⟩
 ·exact argsT_all (P:=nrT) (fun _=>rfl) (fun _=>rfl) _ _ _ (rp (fun _=>rfl)) (fun t ht=>tyB_nr (h3 t ht))
theorem made_sp (n:Nat):madeCells #[.pointer none] n=((List.range n).map (fun _=>spV none)).toArray:=by
 apply Array.ext_getElem?
 intro j
 unfold madeCells
 by_cases hj:j<n
 ·simp [hj,spV,Nat.mod_one]
 ·simp [hj]
def gf0 (f:Fi) (m:Me) (A P Cd Kh:Option Addr) (a p c k q sb jb qc:Nat):Gf :=
 ⟨q,qc,sb,m.code.length,.slice A f.classes.length a,.slice P m.params.length p,.int .i64 m.ret.kind,.int .i64 m.ret.cls,.int .i64 m.stack,.int .i64 m.locs,.int .i64 m.regs,.slice Cd m.code.length c,.slice Kh m.hands.length k,.slice (some ⟨jb,0,none⟩) f.classes.length f.classes.length⟩
abbrev chO (f:Fi) (B:Option Addr) (b q:Nat):Obj:=.cells #[.pointer (some ⟨q,0,none⟩),.slice B f.methods.length b,.slice none 0 0] 227
theorem begin_flow (f:Fi) (m:Me) (A B P Cd Kh:Option Addr) (a b p c k q sb jb:Nat) (v0:Value) (R:Nat→Nat) (w0 W w3:World) (hW:Bl w0 W) (hq:W.heap.size≤q) (hqs:q≠sb) (N:NwI f.classes m v0 sb jb R W w3) (hR:∀i,i<f.classes.length→R i≠q∧R i≠sb) (hjq:jb≠q) (hjs:jb≠sb)
  (hb:w3.heap[q]?=some (.cells #[v0,.slice none 0 0,.slice A f.classes.length a,.slice P m.params.length p,.int .i64 m.ret.kind,.int .i64 m.ret.cls,.int .i64 m.stack,.int .i64 m.locs,.int .i64 m.regs,.slice Cd m.code.length c,.slice Kh m.hands.length k,.int .i64 0,.slice (some ⟨sb,0,none⟩) m.code.length m.code.length,.slice none 0 0,.slice (some ⟨jb,0,none⟩) f.classes.length f.classes.length] 277 (0,0)))
  (hmay:mayB f.classes=true) (hmes:∀x∈f.methods,rmeB f.classes f.methods x=true) (hme:rmeB f.classes f.methods m=true) (hA:ClsAt w0 A f.classes) (hB:MesAt w0 B f.methods) (hM:MeAt w0 m P Cd Kh) :
  Cx w0 w3 (gf0 f m A P Cd Kh a p c k q sb jb w3.heap.size) f m
  ∧ FX (Xf (fun _=>False) w3.heap.size (w3.alloc (chO f B b q)).heap.size) (w3.alloc (chO f B b q)) w3 (gf0 f m A P Cd Kh a p c k q sb jb w3.heap.size) W.heap.size (w3.alloc (chO f B b q)) (firstT m m.regs) 0 (List.replicate m.code.length none) []
  ∧ Qx (Xf (fun _=>False) w3.heap.size (w3.alloc (chO f B b q)).heap.size) (w3.alloc (chO f B b q)) w0 (gf0 f m A P Cd Kh a p c k q sb jb w3.heap.size) f (.slice none 0 0):=by
 have hql:=lt_some hb
 have hsl:=lt_some N.sbk
 have hwW:=hW.size
 have hsbl:=N.sbl
 have J:=N.ji
 have FF:FX (fun _=>False) w3 w3 (gf0 f m A P Cd Kh a p c k q sb jb w3.heap.size) W.heap.size w3 (firstT m m.regs) 0 (List.replicate m.code.length none) []:=by
  refine ⟨fun r=>if r=0 then v0 else .slice none 0 0,.slice none 0 0,fun _=>none,⟨⟨rfl,rfl,rfl,Nat.le_refl _,fun _ _ _ _=>rfl⟩,⟨?_,?_⟩,?_,?_,?_,fun r hr=>?_,fun r r' b' hne e=>?_,?_,fun k' b' e=>(by cases e),fun k' _=>nth_none_rep _ _,fun k' j b' e=>(by cases e),⟨rfl,Or.inl ⟨rfl,rfl⟩⟩,fun b' hx=>absurd hx id,⟨Nat.le_refl _,fun b' hx=>absurd hx id⟩⟩⟩
  ·show q<_;omega
  ·show sb<_;omega
  ·rw [List.length_replicate];exact hb
  ·exact N.own
  ·exact ⟨rfl,Or.inl ⟨rfl,rfl⟩⟩
  ·have:rtF (firstT m m.regs) (List.replicate m.code.length none) r=[]:=by
    unfold rtF
    rw [if_neg (by omega),if_neg (by omega),nth_none_rep]
   rw [this]
   try dsimp only
   rw [if_neg (by omega)]
   exact ⟨rfl,Or.inl ⟨rfl,rfl⟩⟩
  ·try dsimp only at e ⊢
   by_cases h:r'=0
   ·rw [if_neg (by omega)] at e;cases e
   ·rw [if_neg h];intro e2;cases e2
  ·rw [List.length_replicate]
   have:=N.sbk
   rw [made_sp] at this
   exact this
 refine ⟨⟨⟨?_,?_⟩,hW.trans N.bl,⟨A,a,rfl,hA⟩,⟨rfl,rfl⟩,⟨Cd,c,rfl,hM.2.1⟩,⟨Kh,k,rfl,hM.2.2.1⟩,?_,hmay,hme,hmes⟩,FF.wide ((Bl.refl w3).alloc _),⟨Or.inr ⟨Nat.le_refl _,by show w3.heap.size<_;simp⟩,B,b,mblk rfl,hB⟩⟩
 ·show w0.heap.size≤q;omega
 ·show w0.heap.size≤sb;omega
 ·refine ⟨jb,0,f.classes.length,rfl,hjq,hjs,fun i hi=>?_⟩
  obtain ⟨a1,a2,a3,a4,a5⟩:=J.row i hi
  refine ⟨R i,0,f.classes.length,by rw [Nat.zero_add];exact a4,(hR i hi).1,(hR i hi).2,fun j hj=>by rw [Nat.zero_add];exact a5 j hj⟩
def SqQ (f:Fi) (m:Me) (w:World) (e:Ending) (w':World):Prop :=
 Bl w w'∧(e=.returned (.tuple #[.slice none 0 0,.bool false])∨∃S n s,e=.returned (.tuple #[.slice S n s,.bool true])∧SoundM f m)
theorem fthrough_any (f:Fi) (m:Me) (A B P Cd Kh:Option Addr) (a b p c k:Nat) (w:World) (hmay:mayB f.classes=true) (hmes:∀x∈f.methods,rmeB f.classes f.methods x=true) (hme:rmeB f.classes f.methods m=true) (h8:m.hands.length≤8) (hA:ClsAt w A f.classes) (hB:MesAt w B f.methods) (hM:MeAt w m P Cd Kh) :
  Calls Tryz.prog 76 #[.agg #[.slice A f.classes.length a,.slice B f.methods.length b],fmeV m P Cd Kh p c k] w fun e w'=>SqQ f m w e w':=by
 have hmf:∀(fn:Fn) (first cap:Array Value) (w:World),(Instr.makeFunc fn first cap).run Tryz.prog w=.ok (.func fn first cap) w:=fun _ _ _ _=>rfl
 obtain ⟨lp,l2,l1,-,-,l3,-,l4,lh,-⟩:=smeP hme
 have NN:Hid (∀V,Bl w V→Calls Tryz.prog 155 #[.slice A f.classes.length a,fmeV m P Cd Kh p c k,.int .i64 m.regs] V fun e w'=>NwQ f.classes m A P Cd Kh a p c k V e w'):=fun V hV=>fnew_any f.classes m A P Cd Kh a p c k V hmay (hA.bl hV) (hM.1.bl hV) l1 l2 (fun t ht=>(tyB_ok (l4 t ht)).2) l3
 have BG:Hid (∀(W w3:World) (q sb jb:Nat) (v0:Value) (R:Nat→Nat),Bl w W→W.heap.size≤q→q≠sb→NwI f.classes m v0 sb jb R W w3→(∀i,i<f.classes.length→R i≠q∧R i≠sb)→jb≠q→jb≠sb→w3.heap[q]?=some (.cells #[v0,.slice none 0 0,.slice A f.classes.length a,.slice P m.params.length p,.int .i64 m.ret.kind,.int .i64 m.ret.cls,.int .i64 m.stack,.int .i64 m.locs,.int .i64 m.regs,.slice Cd m.code.length c,.slice Kh m.hands.length k,.int .i64 0,.slice (some ⟨sb,0,none⟩) m.code.length m.code.length,.slice none 0 0,.slice (some ⟨jb,0,none⟩) f.classes.length f.classes.length] 277 (0,0)) →
   Calls Tryz.prog 156 #[.pointer (some ⟨q,0,none⟩),.func (.func 157) #[.pointer (some ⟨w3.heap.size,0,none⟩)] #[]] (w3.alloc (chO f B b q)) fun e w'=>SqQ f m w e w'):=fun W w3 q sb jb v0 R h1 h2 h3 h4 h5 h6 h7 h8'=>by
  obtain ⟨C,F,Q⟩:=begin_flow f m A B P Cd Kh a b p c k q sb jb v0 R w W w3 h1 h2 h3 h4 h5 h6 h7 h8' hmay hmes hme hA hB hM
  refine (fthr_any C (Nat.le_refl _) (first_wn hme) (.slice none 0 0) Q h8 (fun x hx=>by (have h:=lh x hx;unfold hdB at h;have h:=of_decide_eq_true h;omega)) l3 (by omega) F).mono ?_
  rintro e w' (⟨rfl,X,wx,b0,cur,at',st,wt,hx⟩|⟨X,wx,b0,cur,at',st,rfl,hx,hi⟩)
  ·exact ⟨C.bl0 hx,Or.inl rfl⟩
  ·exact ⟨C.bl0 hx,Or.inr ⟨_,_,_,rfl,hi.sound⟩⟩
 have HB:Hid (Bl w ((w.alloc (.cells #[.slice A f.classes.length a,.slice B f.methods.length b] 25)).alloc (fmeO m P Cd Kh p c k))):=((Bl.refl w).alloc _).alloc _
 have ZF:Hid (((w.alloc (.cells #[.slice A f.classes.length a,.slice B f.methods.length b] 25)).alloc (fmeO m P Cd Kh p c k)).heap[w.heap.size]?=some (.cells #[.slice A f.classes.length a,.slice B f.methods.length b] 25 (0,0))):=bl_blk ((Bl.refl _).alloc _) (mblk rfl)
 have ZM:Hid (((w.alloc (.cells #[.slice A f.classes.length a,.slice B f.methods.length b] 25)).alloc (fmeO m P Cd Kh p c k)).heap[w.heap.size+1]?=some (fmeO m P Cd Kh p c k)):=mblk (by simp)
 have hwl:=lt_some ZM.out
 have SS:Hid (∀w':World,w'.heap[w.heap.size]?=some (.cells #[.slice A f.classes.length a,.slice B f.methods.length b] 25 (0,0))→w'.heap[w.heap.size+1]?=some (fmeO m P Cd Kh p c k)→w'.cell? ⟨w.heap.size,0,none⟩=some (.slice A f.classes.length a)∧w'.cell? ⟨w.heap.size,1,none⟩=some (.slice B f.methods.length b)∧w'.cell? ⟨w.heap.size+1,0,none⟩=some (.slice P m.params.length p)∧w'.cell? ⟨w.heap.size+1,1,none⟩=some (.int .i64 m.ret.kind)∧w'.cell? ⟨w.heap.size+1,2,none⟩=some (.int .i64 m.ret.cls)∧w'.cell? ⟨w.heap.size+1,3,none⟩=some (.int .i64 m.stack)∧w'.cell? ⟨w.heap.size+1,4,none⟩=some (.int .i64 m.locs)∧w'.cell? ⟨w.heap.size+1,5,none⟩=some (.int .i64 m.regs)∧w'.cell? ⟨w.heap.size+1,6,none⟩=some (.slice Cd m.code.length c)∧w'.cell? ⟨w.heap.size+1,7,none⟩=some (.slice Kh m.hands.length k)):=fun w' h g=>⟨(cell_blk h).trans rfl,(cell_blk h).trans rfl,(cell_blk g).trans rfl,(cell_blk g).trans rfl,(cell_blk g).trans rfl,(cell_blk g).trans rfl,(cell_blk g).trans rfl,(cell_blk g).trans rfl,(cell_blk g).trans rfl,(cell_blk g).trans rfl⟩
 clear hmay hmes hme h8 hA hB hM l1 l2 l3 l4 lp lh
 go_enter Tryz.func76,Tryz.ntmps76
 go_wp2
 generalize (w.alloc (.cells #[.slice A f.classes.length a,.slice B f.methods.length b] 25)).alloc (fmeO m P Cd Kh p c k)=V at *
 refine wp_region_held_drew (S:=fun w'=>w'.cell? ⟨w.heap.size,0,none⟩=some (.slice A f.classes.length a)∧w'.cell? ⟨w.heap.size,1,none⟩=some (.slice B f.methods.length b)∧w'.cell? ⟨w.heap.size+1,0,none⟩=some (.slice P m.params.length p)∧w'.cell? ⟨w.heap.size+1,1,none⟩=some (.int .i64 m.ret.kind)∧w'.cell? ⟨w.heap.size+1,2,none⟩=some (.int .i64 m.ret.cls)∧w'.cell? ⟨w.heap.size+1,3,none⟩=some (.int .i64 m.stack)∧w'.cell? ⟨w.heap.size+1,4,none⟩=some (.int .i64 m.locs)∧w'.cell? ⟨w.heap.size+1,5,none⟩=some (.int .i64 m.regs)∧w'.cell? ⟨w.heap.size+1,6,none⟩=some (.slice Cd m.code.length c)∧w'.cell? ⟨w.heap.size+1,7,none⟩=some (.slice Kh m.hands.length k)) (by kernel_rfl) ?_ (fun hHeld0=>?_)
 ·exact SS.out _ ZF.out ZM.out
 iterate 7 (refine tn rfl (by kernel_rfl) (fun _ _ _ h=>h) (by intro _ h;go_split_ands;go_simp<;>with_reducible rfl) hHeld0 ?_;try simp only [aZ])
 refine rd1 (i:=5) (by kernel_rfl) rfl fun K hK=>?_
 go_simp
 go_at_call 155
 refine (NN.out V.drew (HB.out.trans (Bl.refl V).drew)).mono ?_
 rintro e w3 ⟨q,v0,sb,jb,R,rfl,n1,n2,n3,n4,n5,n6,n7⟩
 have B3:=hid ((HB.out.trans (Bl.refl V).drew).trans n3.bl)
 have K3:=hid (BG.out V.drew w3 q sb jb v0 R (HB.out.trans (Bl.refl V).drew) n1 n2 n3 n4 n5 n6 n7)
 have F3:=hid (bl_blk ((Bl.refl V).drew.trans n3.bl) ZF.out)
 have M3:=hid (bl_blk ((Bl.refl V).drew.trans n3.bl) ZM.out)
 clear n1 n2 n3 n4 n5 n6 n7
 refine hK.out _ _ (SS.out _ F3.out M3.out) (fun hHeld1=>?_)
 try simp only [aZ]
 clear hK
 refine tn rfl (by kernel_rfl) (fun _ _ _ h=>h) (by intro _ h;go_split_ands;go_simp<;>with_reducible rfl) hHeld1 ?_
 try simp only [aZ]
 refine rd1 (i:=9) (by kernel_rfl) rfl fun K hK=>?_
 go_simp
 refine hK.out _ _ (SS.out _ (bl_blk ((Bl.refl w3).alloc _) F3.out) (bl_blk ((Bl.refl w3).alloc _) M3.out)) (fun hHeld2=>?_)
 try simp only [aZ]
 clear hK
 refine tn rfl (by kernel_rfl) (fun _ _ _ h=>h) (by intro _ h;go_split_ands;go_simp<;>with_reducible rfl) hHeld2 ?_
 try simp only [aZ]
 refine wpAnyH_done (by kernel_rfl) ?_ _
 clear hHeld0 hHeld1 hHeld2 F3 M3 SS ZF ZM hwl
 go_wp2_with (go_at_call 156;refine K3.out.mono ?_;rintro e w5 ⟨b5,rfl|⟨S5,n5,s5,rfl,q5⟩⟩)
 ·go_ret2
  exact ⟨b5,Or.inl rfl⟩
 ·go_ret2
  exact ⟨b5,Or.inr ⟨S5,n5,s5,rfl,q5⟩⟩
theorem results_tmp_cell {P:Program} {fn:Func} {p s:Tmp} {ty:TypeId} (h:fn.results=#[.tmp s,.cell p ty]) (tmps:Array Value) (w:World) (g:Nat) (t:TypeId) (cs:Array Value) (fr:Nat×Nat) (d:TypeDesc) (v:Value)
  (hp:tmps.getD p undef=.pointer (some ⟨g,0,none⟩)) (hs:tmps.getD s undef=v) (hg:w.heap[g]?=some (.cells cs t fr))
  (hu:P.underlying ty=some d) (hd:(match d with | .struct _ | .array _ _=>true|_=>false)=true) (hi:(P.info? ty).map (·.size)=some cs.size) :
  (results fn tmps).run P w=.ok (.tuple #[v,.agg cs]) w:=by
 have hp':tmps[p]?.getD undef=.pointer (some ⟨g,0,none⟩):=by simpa using hp
 have hs':tmps[s]?.getD undef=v:=by simpa using hs
 simp [results,h,hp',hs',asAddr,run_loadVar_row w g t ty cs fr d hg hu hd hi]
theorem info_flt:(Tryz.prog.info? 36).map (·.size)=some 3:=by kernel_rfl
theorem info_sts3:(Tryz.prog.info? 154).map (fun i=>(i.zero,i.size,i.bytes))=some (some (.slice none 0 0),1,24):=by kernel_rfl
theorem make_all (n:Nat) (hn:n≤900) (u:World):(Instr.makeSlice 63 (.int .i64 (n:Int)) (.int .i64 (n:Int))).run Tryz.prog u=.ok (.slice (some ⟨u.heap.size,0,none⟩) n n) (u.alloc (.cells (madeCells #[.slice none 0 0] n) 154)):=by
 obtain ⟨i,hi,hz,hs,hb⟩:=info_partsT info_sts3
 have h:=run_make u 63 154 i _ Tryz.underlying63 hi hz .i64 .i64 (n:Int) (n:Int) (by omega) (Int.le_refl _) (by rw [hb];omega) (by omega)
 rw [hs] at h
 simp only [Int.toNat_natCast,Nat.mul_one] at h
 exact h
theorem set_3f {w:World} {b:Nat} {u0 u1 u2:Value} {t:TypeId} (h:w.heap[b]?=some (.cells #[u0,u1,u2] t (0,0))) (v0 v1 v2:Value):(((w.setCell ⟨b,0,none⟩ v0).setCell ⟨b,1,none⟩ v1).setCell ⟨b,2,none⟩ v2).heap[b]?=some (.cells #[v0,v1,v2] t (0,0)):=by
 rw [block_set (block_set (block_set h _) _)];rfl
theorem bl_3f {a w:World} (h:Bl a w) {b:Nat} (hb:a.heap.size≤b) (v0 v1 v2:Value):Bl a (((w.setCell ⟨b,0,none⟩ v0).setCell ⟨b,1,none⟩ v1).setCell ⟨b,2,none⟩ v2):=((h.setCell hb _).setCell hb _).setCell hb _
theorem hands8 {cs:List Cl} {ms:List Me} {m:Me} (h:rmeB cs ms m=true):m.hands.length≤8:=by
 unfold rmeB headB at h
 simp only [Bool.and_eq_true,List.all_eq_true,decide_eq_true_eq] at h
 omega
def ChQ (f:Fi) (w:World) (e:Ending) (w':World):Prop :=
 Bl w w'∧((rfmayB f=false∧e=.returned (.tuple #[.slice none 0 0,.agg #[.int .i64 2,.int .i64 0,.int .i64 0]]))∨(∃k:Nat,e=.returned (.tuple #[.slice none 0 0,.agg #[.int .i64 3,.int .i64 k,.int .i64 0]]))∨∃S n s,e=.returned (.tuple #[.slice S n s,.agg #[.int .i64 0,.int .i64 0,.int .i64 0]])∧rfmayB f=true∧∀m∈f.methods,SoundM f m)
structure ChI (f:Fi) (A B:Option Addr) (a b:Nat) (w:World) (ab q:Nat) (wr:World):Prop where
 bl:Bl w wr
 fi:wr.heap[w.heap.size]?=some (.cells #[.slice A f.classes.length a,.slice B f.methods.length b] 25 (0,0))
 flt:wr.heap[w.heap.size+1]?=some (.cells #[.int .i64 0,.int .i64 0,.int .i64 0] 36 (0,0))
 lo:w.heap.size+1<ab
 all:∃cs:Array Value,wr.heap[ab]?=some (.cells cs 154 (0,0))∧cs.size=f.methods.length
 so:∀j,j<q→SoundM f (nth me0 f.methods j)
theorem ChI.ext {f:Fi} {A B:Option Addr} {a b:Nat} {w:World} {ab q:Nat} {wr wr':World} (I:ChI f A B a b w ab q wr) (h:Bl wr wr'):ChI f A B a b w ab q wr':=by
 obtain ⟨cs,h1,h2⟩:=I.all
 exact ⟨I.bl.trans h,bl_blk h I.fi,bl_blk h I.flt,I.lo,⟨cs,bl_blk h h1,h2⟩,I.so⟩
theorem ChI.set {f:Fi} {A B:Option Addr} {a b:Nat} {w:World} {ab q:Nat} {wr:World} (I:ChI f A B a b w ab q wr) (i:Nat) (v:Value) (hs:SoundM f (nth me0 f.methods q)):ChI f A B a b w ab (q+1) (wr.setCell ⟨ab,i,none⟩ v):=by
 obtain ⟨cs,h1,h2⟩:=I.all
 have:=I.lo
 refine ⟨I.bl.setCell (by show w.heap.size≤ab;omega) _,(block_far (by omega) _).trans I.fi,(block_far (by omega) _).trans I.flt,I.lo,⟨_,block_set h1 _,by simp [h2]⟩,fun j hj=>?_⟩
 by_cases e:j=q
 ·rw [e];exact hs
 ·exact I.so j (by omega)
theorem fcheck_any (f:Fi) (A B:Option Addr) (a b:Nat) (w:World) (hA:ClsAt w A f.classes) (hB:MesAt w B f.methods) :
  Calls Tryz.prog 75 #[fiV f.classes.length f.methods.length A B a b,.func (.func 30) #[] #[],.func (.func 76) #[] #[]] w fun e w'=>ChQ f w e w':=by
 have HA:=hid hA
 have HB:=hid hB
 have BW:Hid (Bl w ((w.alloc (.cells #[.slice A f.classes.length a,.slice B f.methods.length b] 25)).alloc (.cells #[.int .i64 0,.int .i64 0,.int .i64 0] 36))):=((Bl.refl w).alloc _).alloc _
 have ZF:Hid (((w.alloc (.cells #[.slice A f.classes.length a,.slice B f.methods.length b] 25)).alloc (.cells #[.int .i64 0,.int .i64 0,.int .i64 0] 36)).heap[w.heap.size]?=some (.cells #[.slice A f.classes.length a,.slice B f.methods.length b] 25 (0,0))):=bl_blk ((Bl.refl _).alloc _) (mblk rfl)
 have ZX:Hid (((w.alloc (.cells #[.slice A f.classes.length a,.slice B f.methods.length b] 25)).alloc (.cells #[.int .i64 0,.int .i64 0,.int .i64 0] 36)).heap[w.heap.size+1]?=some (.cells #[.int .i64 0,.int .i64 0,.int .i64 0] 36 (0,0))):=mblk (by simp)
 cases hm:rfmayB f with
 | false =>
  have HM:=hid hm
  clear hm hA hB
  go_enter Tryz.func75,Tryz.ntmps75
  go_wp2_with (go_at_call 30;refine (pmay_doc f A B a b _ (HA.out.bl BW.out) (HB.out.bl BW.out)).mono ?_;rintro e w2 ⟨he,b2⟩;rw [HM.out] at he;subst he;have X2:=hid (bl_blk b2 ZX.out);have x0:=cell_blk (i:=0) X2.out;have x1:=cell_blk (i:=1) X2.out;have x2:=cell_blk (i:=2) X2.out;have hx:=lt_some X2.out;have fx:=free_blk X2.out;have B2:=hid (BW.out.trans b2);clear b2)
  refine bodyPost_ret (results_tmp_cell rfl _ _ (w.heap.size+1) _ _ _ _ (.slice none 0 0) rfl rfl (set_3f X2.out _ _ _) Tryz.underlying36 rfl info_flt) rfl ?_
  exact ⟨bl_3f B2.out (by omega) _ _ _,Or.inl ⟨HM.out,rfl⟩⟩
 | true =>
  have HM:=hid hm
  have hsm:=hm
  unfold rfmayB at hsm
  rw [Bool.and_eq_true,Bool.and_eq_true,List.all_eq_true] at hsm
  obtain ⟨⟨hmay,hnm⟩,hmes⟩:=hsm
  have hnm:=of_decide_eq_true hnm
  have HMY:=hid hmay
  have HMS:=hid hmes
  have mk:=make_all f.methods.length (by omega)
  clear hm hmay hmes hA hB
  go_enter Tryz.func75,Tryz.ntmps75
  go_wp2_with (go_at_call 30;refine (pmay_doc f A B a b _ (HA.out.bl BW.out) (HB.out.bl BW.out)).mono ?_;rintro e w2 ⟨he,b2⟩;rw [HM.out] at he;subst he;have F2:=hid (bl_blk b2 ZF.out);have x0:∀o,(w2.alloc o).cell? ⟨w.heap.size,1,none⟩=some (.slice B f.methods.length b):=(fun o=>((cell_blk (bl_blk ((Bl.refl w2).alloc o) F2.out)).trans rfl));have x1:w2.cell? ⟨w.heap.size,1,none⟩=some (.slice B f.methods.length b):=((cell_blk F2.out).trans rfl);have hx:=lt_some F2.out;have X2:=hid (bl_blk b2 ZX.out);have B2:=hid (BW.out.trans b2);have hl2:=lt_some X2.out;clear b2)
  have I0:Hid (ChI f A B a b w w2.heap.size 0 (w2.alloc (.cells (madeCells #[.slice none 0 0] f.methods.length) 154))):=⟨B2.out.alloc _,bl_blk ((Bl.refl w2).alloc _) F2.out,bl_blk ((Bl.refl w2).alloc _) X2.out,hl2,⟨_,mblk rfl,by rw [size_madeCells]⟩,fun j hj=>by omega⟩
  obtain ⟨ab,hab⟩:∃ab,ab=w2.heap.size:=⟨_,rfl⟩
  rw [←hab] at I0 ⊢
  clear mk x0 x1 hx hl2 F2 X2 B2 ZF ZX BW
  go_loopw [25] (fun i wr=>∃q:Nat,q≤f.methods.length∧i=.int .i64 q∧Hid (ChI f A B a b w ab q wr)) (fun i _=>f.methods.length-(intOf i).toNat)
  case atStart=>exact ⟨0,Nat.zero_le _,rfl,I0.out⟩
  case round =>
   clear I0 hab
   obtain ⟨q,hq,rfl,HI⟩:=hrel
   by_cases hql:q<f.methods.length
   ·rcases HB.out.2 with h0|⟨mb,mo,rfl,hcell⟩
    ·omega
    obtain ⟨P,Cd,Kh,p,c,k,y0,y1,y2,y3,y4,y5,y6,y7,hMe⟩:=hcell q hql
    have bw:=HI.out.bl
    have y0:=bw.cell y0
    have y1:=bw.cell y1
    have y2:=bw.cell y2
    have y3:=bw.cell y3
    have y4:=bw.cell y4
    have y5:=bw.cell y5
    have y6:=bw.cell y6
    have y7:=bw.cell y7
    have hy:=cell_lt y0
    have hq0:¬(q:Int)<0:=by omega
    have hq1:(q:Int)<(f.methods.length:Int):=by omega
    have hmem:nth me0 f.methods q∈f.methods:=nth_mem hql
    have hsm:=HMS.out _ hmem
    have SO:=HI.out.so
    have HSO:=hid SO
    have BA:Hid (Bl wr (wr.alloc (fmeO (nth me0 f.methods q) P Cd Kh p c k))):=(Bl.refl wr).alloc _
    have IA:=hid (HI.out.ext BA.out)
    have KT:=hid (fthrough_any f (nth me0 f.methods q) A (some ⟨mb,mo,none⟩) P Cd Kh a b p c k _ HMY.out HMS.out hsm (hands8 hsm) (HA.out.bl IA.out.bl) (HB.out.bl IA.out.bl) (hMe.bl IA.out.bl))
    have z0:∀o,(wr.alloc o).cell? ⟨w.heap.size,0,none⟩=some (.slice A f.classes.length a):=fun o=>(cell_blk (bl_blk ((Bl.refl wr).alloc o) HI.out.fi)).trans rfl
    have z1:∀o,(wr.alloc o).cell? ⟨w.heap.size,1,none⟩=some (.slice (some ⟨mb,mo,none⟩) f.methods.length b):=fun o=>(cell_blk (bl_blk ((Bl.refl wr).alloc o) HI.out.fi)).trans rfl
    have hz:=lt_some HI.out.fi
    clear hcell hMe bw hmem hsm SO
    go_wp2_with (go_at_call 76;refine KT.out.mono ?_;rintro e w5 ⟨b5,rfl|⟨S5,n5,s5,rfl,so⟩⟩;all_goals (have I5:=hid (IA.out.ext b5);have X5:=hid I5.out.flt;have x0:=cell_blk (i:=0) X5.out;have x1:=cell_blk (i:=1) X5.out;have x2:=cell_blk (i:=2) X5.out;have hx:=lt_some X5.out;have fx:=free_blk X5.out;obtain ⟨cs5,k1,k2⟩:=I5.out.all;have hl5:=lt_some k1;have fz5:=free_blk k1;have hc5:∃v,w5.cell? ⟨ab,q,none⟩=some v:=⟨_,(cell_blk k1).trans (Array.getElem?_eq_getElem (by omega))⟩;obtain ⟨v5,hv5⟩:=hc5;clear k1 k2 b5))
    ·refine bodyPost_ret (results_tmp_cell rfl _ _ (w.heap.size+1) _ _ _ _ (.slice none 0 0) rfl rfl (set_3f X5.out _ _ _) Tryz.underlying36 rfl info_flt) rfl ?_
     exact ⟨bl_3f I5.out.bl (by omega) _ _ _,Or.inr (Or.inl ⟨q,rfl⟩)⟩
    ·go_roundw
     case rel=>exact ⟨q+1,by omega,by go_num,I5.out.set q _ so⟩
     case measure=>simp [intOf];omega
   ·obtain rfl:q=f.methods.length:=by omega
    have X5:=hid HI.out.flt
    have x0:=cell_blk (i:=0) X5.out
    have x1:=cell_blk (i:=1) X5.out
    have x2:=cell_blk (i:=2) X5.out
    have hx:=lt_some X5.out
    have fx:=free_blk X5.out
    go_wp2
    refine bodyPost_ret (results_tmp_cell rfl _ _ (w.heap.size+1) _ _ _ _ (.slice (some ⟨ab,0,none⟩) f.methods.length f.methods.length) rfl rfl (set_3f X5.out _ _ _) Tryz.underlying36 rfl info_flt) rfl ?_
    refine ⟨bl_3f HI.out.bl (by omega) _ _ _,Or.inr (Or.inr ⟨_,_,_,rfl,HM.out,fun m hm=>?_⟩)⟩
    obtain ⟨j,hj,rfl⟩:=List.getElem_of_mem hm
    have:=HI.out.so j hj
    rw [nth_get hj] at this
    exact this
end Go.Proofs.YtgiiapenmjollabGreat
