import Derived.Test.YtgiiapenmjollaaGreatSsaq
namespace Go.Proofs.YtgiiapenmjollaaGreat
set_option linter.all false
set_option maxHeartbeats 40000000
set_option maxRecDepth 100000
open Go.RowKit
theorem args_snoc:∀(l:List Va) (l0:List Va) (at':Nat) (v:Va),argsP l0 at' (l++[v])=stoP (argsP l0 at' l) (at'+sizP l) v
 | [],l0,at',v=>by simp [argsP,sizP]
 | x::l,l0,at',v=>by
  show argsP (stoP l0 at' x) (at'+sizP [x]) (l++[v])=stoP (argsP (stoP l0 at' x) (at'+sizP [x]) l) (at'+sizP (x::l)) v
  rw [args_snoc l]
  have:at'+sizP [x]+sizP l=at'+sizP (x::l):=by simp [sizP];omega
  rw [this]
theorem take_snoc' {l:List Va} {k:Nat} (h:k<l.length):l.take (k+1)=l.take k++[nth va0 l k]:=by
 rw [List.take_succ_eq_append_getElem h,nth_get h]
theorem args_part {h:Hp} {m:Me} {l:List Va} (hsm:smeB h.file.classes h.file.methods.length m=true) (hl:l.length=m.params.length) (hg:∀v∈l,GdV h v) (he:h.enterL l m.params=true) (k:Nat) (hk:k≤l.length) :
  LocOk (argsP (List.replicate m.locs.toNat va0) 0 (l.take k))∧(argsP (List.replicate m.locs.toNat va0) 0 (l.take k)).length=m.locs.toNat∧(sizP (l.take k):Int)≤m.locs ∧
  (k<l.length→(sizP (l.take k):Int)<m.locs∧((nth va0 l k).kind=2→(sizP (l.take k):Int)+1<m.locs)):=by
 obtain ⟨p1,p2,p3,p4,p5,p6,p7,p8,p9,p10,p11⟩:=smeP hsm
 obtain ⟨s1,s2⟩:=enter_sizes h h.file.classes.length l m.params hl he p9
 have hle:=sizP_takeLe l k
 obtain ⟨k1,k2,k3⟩:=args_kept h (l.take k) (List.replicate m.locs.toNat va0) 0 (rep_ok _) (fun x hx=>by rw [List.eq_of_mem_replicate hx];exact gdV0 h) (fun x hx=>hg x (List.mem_of_mem_take hx)) (fun x hx=>s2 x (List.mem_of_mem_take hx)) (by rw [List.length_replicate];omega)
 refine ⟨k1,by rw [k3,List.length_replicate],by omega,fun hlt=>?_⟩
 have h1:=sizP_takeLe l (k+1)
 rw [take_snoc' hlt,sizP_append,siz_one] at h1
 split at h1
 ·omega
 ·exact ⟨by omega,fun e=>by contradiction⟩
theorem Only.hs {w0 w w':World} {g:Ad} {p b:Nat} {h:Hp} {l:List Va} (H:Hs w0 g w p h) (o:Only b w w') (k:Tk g.T) (L:LocBox w b l) (hb:w0.heap.size≤b):Hs w0 g w' p h:=H.cf (o.cf k L hb H.base)
theorem StkAt.only {b lb:Nat} {w w':World} {A:Option Addr} {l:List Va} (h:StkAt lb w A l) (o:Only b w w') (N:Nat) (hN:N≤b) (he:∀x y cs f,A=some ⟨x,y,none⟩→w.heap[x]?=some (.cells cs 62 f)→0<l.length→x<N):StkAt lb w' A l:=by
 rcases h with h|⟨x,y,cs,f,h1,h2,h3,h4⟩
 ·exact Or.inl h
 ·by_cases h0:l.length=0
  ·exact Or.inl h0
  ·have:=he x y cs f h1 h2 (by omega)
   exact Or.inr ⟨x,y,cs,f,h1,(o.block x (lt_some h2) (by omega)).trans h2,h3,h4⟩
theorem store_at (b:Nat) (l:List Va) (a c n:Nat) (v:Va) (w:World) (hL:LocBox w b l) (hok:LocOk l) (hn:n=l.length) (ha:a<n) (h2:v.kind=2→a+1<n) :
  Calls Tryz.prog 52 #[.slice (some ⟨b,0,none⟩) n c,.int .i64 (a:Int),vaV v] w fun e w'=>e=.returned (.tuple #[])∧LocBox w' b (stoP l a v)∧Only b w w':=by
 subst hn
 exact store_any b l a c v w hL hok ha h2
theorem vas_one {w:World} {b off:Nat} {v:Va} (h0:w.cell? ⟨b,off,none⟩=some (.int .i64 v.kind)) (h1:w.cell? ⟨b,off+1,none⟩=some (.int .i64 v.n)):VasAt w (some ⟨b,off,none⟩) [v] :=
 ⟨by unfold maxLen;simp,Or.inr ⟨b,off,rfl,fun i hi=>by
  have:i=0:=by simp at hi;exact hi
  subst this
  rw [Nat.zero_mul,Nat.add_zero]
  exact ⟨h0,h1⟩⟩⟩
structure L2 (w0:World) (g:Ad) (p:Nat) (ca:Ca) (m:Me) (WA:World) (h0:Hp) (N:Nat) (LP:Hp×Va) (k:Nat) (h1:Hp) (c1:Cal) (wr:World):Prop where
 hs:Hs w0 g wr p h1
 cs:Cs w0 wr ca c1
 fq:Fq w0.heap.size g.T ca WA wr
 gh:Gh 0 h1
 calls:1≤h1.calls
 inv:Inv h1 c1
 me:c1.m=m
 file:h1.file=h0.file
 inp:h1.input=h0.input
 fuel:h1.fuel=h0.fuel
 left:(h1.fuel-h1.sh.steps).toNat≤k
 le:k≤N
 is:loopP k h1 c1=LP
def leftAt (p:Nat) (fuel:Int) (w:World):Nat:=match w.cell? ⟨p,11,none⟩ with
 | some v=>(fuel-intOf v).toNat
 | none=>0
theorem left_is {w0 w:World} {g:Ad} {p:Nat} {h:Hp} (H:Hs w0 g w p h) (fuel:Int):leftAt p fuel w=(fuel-h.sh.steps).toNat:=by
 obtain ⟨vo,vx,hv,X⟩:=H
 unfold leftAt
 rw [X.cells.c11]
 rfl
theorem loop_end {k:Nat} {h:Hp} {c:Cal} (hb:h.stepB=false):loopP k h c=(h.step.leave,va0):=by
 cases k with
 | zero=>rfl
 | succ k=>unfold loopP;rw [if_pos hb]
theorem HpAt.leave {w0 w:World} {g:Ad} {p:Nat} {h:Hp} {vo vx:Value} {hv:List Value} (H:HpAt w0 g w p h vo vx hv) (k:Tk g.T):HpAt w0 g (w.setCell ⟨p,4,none⟩ (.int .i64 (h.calls-1))) p h.leave vo vx hv:=H.set k _ rfl rfl rfl
theorem VaBox.far {w:World} {b p i:Nat} {v:Va} {u:Value} (h:VaBox w b v) (hb:b≠p):VaBox (w.setCell ⟨p,i,none⟩ u) b v:=⟨by rw [block_far hb];exact h.blk⟩
theorem run_yes (w0:World) (g:Ad) (p:Nat) (h:Hp) (m:Me) (P CC K:Option Addr) (pp cc kk:Nat) (A:Option Addr) (ac lb:Nat) (l:List Va) (w:World) (hH:Hs w0 g w p h) (E:Env w0 g h) (ho:h.over=false) (gh:Gh 0 h) (hme:MeAt w0 m P CC K) (hsm:smeB h.file.classes h.file.methods.length m=true) (hok:∀i∈m.code,i.ok) (hl:l.length=m.params.length) (hg:∀v∈l,GdV h v) (hA:StkAt lb w A l) (hac:l.length≤ac) (hb:h.enterB m l=true) (hth:h.thrown=-1)
  (N:Nat) (hN:(h.fuel-h.sh.steps).toNat≤N) (IH:∀k,k<N→RunOk w0 g p k) :
  Calls Tryz.prog 26 #[.pointer (some ⟨p,0,none⟩),meV m P CC K pp cc kk,.slice A l.length ac] w fun e w'=>e=.returned (vaV (loopP N (h.enterH m l) (newCal m l)).2)∧Hs w0 g w' p (loopP N (h.enterH m l) (newCal m l)).1∧Fr w0.heap.size g.T w w':=by
 have hbs:=hH.base
 have hbl:Bl w ((w.alloc (meBO m P CC K pp cc kk)).alloc vzO):=((Bl.refl w).alloc _).alloc _
 have HF:Hid (Fr w0.heap.size g.T w ((w.alloc (meBO m P CC K pp cc kk)).alloc vzO)):=Fr.old hbs hbl
 have HH:Hid (Hs w0 g ((w.alloc (meBO m P CC K pp cc kk)).alloc vzO) p h):=hH.old hbl
 have HM:Hid (MthBox ((w.alloc (meBO m P CC K pp cc kk)).alloc vzO) w.heap.size m P CC K pp cc kk):=⟨blk_up (by simp) (blk_at rfl)⟩
 have HR:Hid (VaBox ((w.alloc (meBO m P CC K pp cc kk)).alloc vzO) (w.heap.size+1) va0):=⟨blk_at (by simp)⟩
 have HA:Hid (StkAt lb ((w.alloc (meBO m P CC K pp cc kk)).alloc vzO) A l):=hA.keep fun b cs f e _=>(hbl.block _ (lt_some e)).trans e
 have HK:Hid (Tk g.T):=E.cw.k
 have HC:Hid (Cw w0 g h):=E.cw
 have HP:Hid (TysAt w0 P m.params):=hme.1
 have HL:Hid (l.length=m.params.length):=hl
 have HG:Hid (∀v∈l,v.kind=3→v.n<h.objs.length):=fun v hv e=>((hg v hv).ref e).2
 have HB:Hid (h.enterB m l=true):=hb
 have hcl:=gh.calls
 have hbs1:w0.heap.size≤w.heap.size+1:=by omega
 have hle1:w.heap.size≤w.heap.size+1:=by omega
 obtain ⟨q1,q2,q3,q4,q5,q6,q7,q8,q9,q10,q11⟩:=smeP hsm
 have hlo:0≤m.locs:=by omega
 have hmk:=make_vaI m.locs hlo (by omega)
 have HE:Hid (Env w0 g h):=E
 have HPW:Hid (Hs w0 g w p h):=hH
 have HGH:Hid (Gh 0 h):=gh
 have HME:Hid (MeAt w0 m P CC K):=hme
 have HSM:Hid (smeB h.file.classes h.file.methods.length m=true):=hsm
 have HOK:Hid (∀i∈m.code,i.ok):=hok
 have HGV:Hid (∀v∈l,GdV h v):=hg
 have HTH:Hid (h.thrown=-1):=hth
 have HIH:Hid (∀k,k<N→RunOk w0 g p k):=IH
 have HNN:Hid ((h.fuel-h.sh.steps).toNat≤N):=hN
 obtain ⟨LP,hLP⟩:∃LP,loopP N (h.enterH m l) (newCal m l)=LP:=⟨_,rfl⟩
 rw [hLP]
 have HLP:Hid (loopP N (h.enterH m l) (newCal m l)=LP):=hLP
 have HEL:Hid (h.enterL l m.params=true):=by show h.enterL l m.params=true;unfold Hp.enterB at hb;rw [Bool.and_eq_true] at hb;exact hb.1
 clear q8 q9 q10 q11 hbl hH E gh hme hsm hok hl hg hA hb hth hN IH hLP
 go_enter Tryz.func26,Tryz.ntmps26
 go_wp2_with (go_at_call 51;refine (enter_any w0 g p h m P CC K pp cc kk A ac lb l _ HH.out HC.out ho HP.out HL.out HA.out HG.out hcl).mono ?_;rintro e w1 ⟨he,h1,f1⟩;rw [HB.out] at he;subst he;have F1:Hid (Fr w0.heap.size g.T ((w.alloc (meBO m P CC K pp cc kk)).alloc vzO) w1):=f1;have b1:=HR.out.keep HK.out f1;have HB1:Hid (VaBox w1 (w.heap.size+1) va0):=b1;clear b1;have HM1:Hid (MthBox w1 w.heap.size m P CC K pp cc kk):=HM.out.fr HK.out f1;have x0:=HM1.out.cells.c0;have x1:=HM1.out.cells.c1;have x2:=HM1.out.cells.c2;have x3:=HM1.out.cells.c3;have x4:=HM1.out.cells.c4;have x5:=HM1.out.cells.c5;have x6:=HM1.out.cells.c6;have x7:=HM1.out.cells.c7;have H1:Hid (Hs w0 g w1 p (h.enterH m l)):=h1;have hlt1:=lt_some HM1.out.blk;have hlt2:=lt_some HB1.out.blk;clear h1 f1)
 go_region_held3 (fun w'=>w'.cell? ⟨w.heap.size,0,none⟩=some (.slice P m.params.length pp)∧w'.cell? ⟨w.heap.size,1,none⟩=some (.int .i64 m.ret.kind)∧w'.cell? ⟨w.heap.size,2,none⟩=some (.int .i64 m.ret.cls)∧w'.cell? ⟨w.heap.size,3,none⟩=some (.int .i64 m.stack)∧w'.cell? ⟨w.heap.size,4,none⟩=some (.int .i64 m.locs)∧w'.cell? ⟨w.heap.size,5,none⟩=some (.int .i64 m.regs)∧w'.cell? ⟨w.heap.size,6,none⟩=some (.slice CC m.code.length cc)∧w'.cell? ⟨w.heap.size,7,none⟩=some (.slice K m.hands.length kk))
  (go_keep)
  (fail)
 go_wp2
 obtain ⟨W3,hW3⟩:∃W3,W3=((w1.alloc (.cells (vaCells (List.replicate m.locs.toNat va0)).toArray 62)).alloc (.cells #[.slice P m.params.length pp,.int .i64 m.ret.kind,.int .i64 m.ret.cls,.int .i64 m.stack,.int .i64 m.locs,.int .i64 m.regs,.slice CC m.code.length cc,.slice K m.hands.length kk,.slice (some ⟨w1.heap.size,0,none⟩) m.locs.toNat m.locs.toNat,.slice none 0 0,.int .i64 0] 113)).drew:=⟨_,rfl⟩
 have hb3:Bl w1 W3:=by rw [hW3];exact (((Bl.refl w1).alloc _).alloc _).drew
 have hLL:(List.replicate m.locs.toNat va0).length=m.locs.toNat:=List.length_replicate ..
 have L3:Hid (LocBox W3 w1.heap.size (List.replicate m.locs.toNat va0)):=⟨by rw [hW3];exact blk_up (by simp) (blk_at rfl),by rw [hLL];unfold maxLen;omega⟩
 have C3:Hid (CalAt w0 W3 ⟨w1.heap.size+1,w1.heap.size,m.locs.toNat,P,CC,K,pp,cc,kk⟩ ⟨m,List.replicate m.locs.toNat va0,[],0⟩ none 0):=by
  have:=H1.out.base
  refine ⟨by dsimp only;omega,by dsimp only;omega,?_,L3.out,Or.inl rfl,HME.out,Nat.le_refl _⟩
  rw [hW3]
  have e:calRow ⟨w1.heap.size+1,w1.heap.size,m.locs.toNat,P,CC,K,pp,cc,kk⟩ ⟨m,List.replicate m.locs.toNat va0,[],0⟩ none 0=#[.slice P m.params.length pp,.int .i64 m.ret.kind,.int .i64 m.ret.cls,.int .i64 m.stack,.int .i64 m.locs,.int .i64 m.regs,.slice CC m.code.length cc,.slice K m.hands.length kk,.slice (some ⟨w1.heap.size,0,none⟩) m.locs.toNat m.locs.toNat,.slice none 0 0,.int .i64 0]:=by
   simp [calRow]
  rw [e]
  exact blk_at (by simp)
 have HB3:Hid (Bl w1 W3):=hb3
 rw [←hW3]
 clear hW3 hb3 hLL x0 x1 x2 x3 x4 x5 x6 x7
 go_loopw [8,9] (fun at' i wr=>∃k:Nat,k≤l.length∧i=.int .i64 k∧at'=.int .i64 ((sizP (l.take k):Nat):Int)∧Hid (Only w1.heap.size W3 wr)∧Hid (LocBox wr w1.heap.size (argsP (List.replicate m.locs.toNat va0) 0 (l.take k)))) (fun _ i _=>l.length-(intOf i).toNat)
 case atStart=>exact ⟨0,Nat.zero_le _,rfl,rfl,Only.refl _ _,L3.out⟩
 case round =>
  obtain ⟨k,hk,rfl,rfl,ho,hL⟩:=hrel
  obtain ⟨a1,a2,a3,a4⟩:=args_part HSM.out HL.out HGV.out HEL.out k hk
  by_cases hkl:k<l.length
  ·obtain ⟨a5,a6⟩:=a4 hkl
   clear a4
   have SW1:StkAt lb w1 A l:=HA.out.fr HK.out F1.out
   have SW3:StkAt lb W3 A l:=SW1.keep fun b cs f e _=>(HB3.out.block _ (lt_some e)).trans e
   have HSW:Hid (∀w',Only w1.heap.size W3 w'→StkAt lb w' A l):=fun w' o=>SW3.only o w1.heap.size (Nat.le_refl _) fun x y cs f hx hh hl0=>by
    rcases SW1 with h0|⟨x',y',cs',f',hx',hh',-⟩
    ·omega
    ·rw [hx] at hx'
     simp only [Option.some.injEq,Addr.mk.injEq] at hx'
     obtain ⟨rfl,-,-⟩:=hx'
     exact lt_some hh'
   obtain ⟨b,off,hAA,hcl⟩:=(HSW.out wr ho.out).fst (by omega)
   obtain ⟨v0,v1⟩:=hcl k hkl
   subst hAA
   have y8:wr.cell? ⟨w1.heap.size+1,8,none⟩=some (.slice (some ⟨w1.heap.size,0,none⟩) m.locs.toNat m.locs.toNat):=by
    have hb:=(ho.out.block (w1.heap.size+1) (lt_some C3.out.blk) (by omega)).trans C3.out.blk
    rw [cell_blk hb]
    simp [calRow]
   have hX:=take_snoc' hkl
   have HNA:Hid (argsP (List.replicate m.locs.toNat va0) 0 (l.take (k+1))=stoP (argsP (List.replicate m.locs.toNat va0) 0 (l.take k)) (sizP (l.take k)) (nth va0 l k)):=by
    show argsP (List.replicate m.locs.toNat va0) 0 (l.take (k+1))=_
    rw [hX,args_snoc,Nat.zero_add]
   have HNS:Hid (sizP (l.take (k+1))=sizP (l.take k)+sizP [nth va0 l k]):=by
    show sizP (l.take (k+1))=_
    rw [hX,sizP_append]
   have HA1:Hid (LocOk (argsP (List.replicate m.locs.toNat va0) 0 (l.take k))):=a1
   have HA2:Hid (m.locs.toNat=(argsP (List.replicate m.locs.toNat va0) 0 (l.take k)).length):=a2.symm
   have H2:Hid ((nth va0 l k).kind=2→sizP (l.take k)+1<m.locs.toNat):=fun e=>by have:=a6 e;omega
   have hslt:sizP (l.take k)<m.locs.toNat:=by omega
   have hs1:sizP [nth va0 l k]≤2:=by have:=sizP_le [nth va0 l k];simp at this;omega
   have hk0:(0:Int)≤(k:Int):=by omega
   have hk1:(k:Int)<(l.length:Int):=by omega
   have hkm:l.length≤2 ^ 63-1:=by have:=HL.out;omega
   have hne:b≠w1.heap.size:=by
    rcases SW1 with h0|⟨x',y',cs',f',hx',hh',-⟩
    ·omega
    ·simp only [Option.some.injEq,Addr.mk.injEq] at hx'
     obtain ⟨rfl,-,-⟩:=hx'
     have:=lt_some hh'
     omega
   clear hcl hX a1 a2 a6 SW1 SW3
   generalize nth va0 l k=V at *
   generalize sizP (l.take k)=T at *
   generalize argsP (List.replicate m.locs.toNat va0) 0 (l.take k)=AL at *
   go_wp2
   go_region_held3 (fun w'=>w'.cell? ⟨w1.heap.size+1,8,none⟩=some (.slice (some ⟨w1.heap.size,0,none⟩) m.locs.toNat m.locs.toNat)∧w'.cell? ⟨b,off+k*2,none⟩=some (.int .i64 V.kind)∧w'.cell? ⟨b,off+k*2+1,none⟩=some (.int .i64 V.n))
    (go_keep)
    (first
     | (go_at_call 52;refine (store_at w1.heap.size AL T m.locs.toNat m.locs.toNat V _ (by exact ⟨hL.out.blk,hL.out.len⟩) HA1.out HA2.out hslt H2.out).mono ?_;rintro e w2 ⟨rfl,l2,o2⟩;have O2:Hid (Only w1.heap.size W3 w2):=(Only.drew ho.out).trans o2;have u8:w2.cell? ⟨w1.heap.size+1,8,none⟩=some (.slice (some ⟨w1.heap.size,0,none⟩) m.locs.toNat m.locs.toNat):=(by have hb:=(O2.out.block (w1.heap.size+1) (lt_some C3.out.blk) (by omega)).trans C3.out.blk;rw [cell_blk hb];simp [calRow]);have u0:w2.cell? ⟨b,off+k*2,none⟩=some (.int .i64 V.kind):=(by rw [←v0];exact World.cell?_of_block (o2.block b (cell_lt v0) hne));have u1:w2.cell? ⟨b,off+k*2+1,none⟩=some (.int .i64 V.n):=(by rw [←v1];exact World.cell?_of_block (o2.block b (cell_lt v1) hne))))
   go_wp2_with (go_at_call 53;refine (size_at _ _ 1 [V] _ (vas_one u0 u1) (by simp) rfl).mono ?_;rintro e w3 ⟨rfl,hw3⟩;rw [hw3];clear hw3 w3)
   go_roundw
   case rel=>exact ⟨k+1,by omega,by go_num,by rw [HNS.out];go_num,O2,by show LocBox _ _ _;rw [HNA.out];exact l2⟩
   case measure=>simp [intOf];omega
  ·obtain rfl:k=l.length:=by omega
   generalize sizP (List.take l.length l)=TT at *
   rw [List.take_length] at hL
   have HWR:Hid (CalAt w0 wr ⟨w1.heap.size+1,w1.heap.size,m.locs.toNat,P,CC,K,pp,cc,kk⟩ (newCal m l) none 0):=by
    have:=C3.out.setLoc ho.out hL.out (by rw [List.take_length] at a2;rw [a2];simp)
    exact this
   have HSR:Hid (Hs w0 g wr p (h.enterH m l)):=Only.hs (H1.out.old HB3.out) ho.out HK.out L3.out H1.out.base
   have HMR:Hid (MthBox wr w.heap.size m P CC K pp cc kk):=⟨(ho.out.block _ (by have:=HB3.out.size;omega) (by omega)).trans ((HB3.out.block _ hlt1).trans HM1.out.blk)⟩
   have HBR:Hid (VaBox wr (w.heap.size+1) va0):=⟨(ho.out.block _ (by have:=HB3.out.size;omega) (by omega)).trans ((HB3.out.block _ hlt2).trans HB1.out.blk)⟩
   have hsz0:w.heap.size+1<w1.heap.size:=hlt2
   have HFR:Hid (Fr w0.heap.size g.T w wr):=by
    have f3:Fr w0.heap.size g.T w W3:=(HF.out.trans F1.out).trans (Fr.old H1.out.base HB3.out)
    refine ⟨⟨ho.out.os.trans f3.bl.os,ho.out.tape.trans f3.bl.tape,ho.out.output.trans f3.bl.output,Nat.le_trans f3.bl.size ho.out.size,fun b hb=>(ho.out.block b (by have:=f3.bl.size;omega) (by omega)).trans (f3.bl.block b hb)⟩,fun b cs t f e n=>?_⟩
    have:=lt_some e
    exact (ho.out.block b (by have:=f3.bl.size;omega) (by omega)).trans (f3.keep b cs t f e n)
   have HST:Hid (L2 w0 g p ⟨w1.heap.size+1,w1.heap.size,m.locs.toNat,P,CC,K,pp,cc,kk⟩ m wr (h.enterH m l) N LP N (h.enterH m l) (newCal m l) wr):=by
    have heH:h.enterH m l={ h with calls:=h.calls+1 }:=by
     have hbb:=HB.out
     unfold Hp.enterB at hbb
     rw [Bool.and_eq_true] at hbb
     have hd:h.deep=false:=by simpa using hbb.2
     unfold Hp.enterH;rw [if_neg (by rw [hbb.1];decide),if_neg (by rw [hd];decide)]
    have hdc:h.calls<20:=by
     have hbb:=HB.out
     unfold Hp.enterB at hbb
     rw [Bool.and_eq_true] at hbb
     have hd:h.deep=false:=by simpa using hbb.2
     unfold Hp.deep at hd;simpa using hd
    have gc:=new_kept HSM.out HOK.out HL.out HGV.out HEL.out
    have g1:Gh 0 (h.enterH m l):=by
     have gh:=HGH.out
     rw [heH]
     exact ⟨fun o ho x hx=>⟨(gh.held o ho x hx).ref,(gh.held o ho x hx).num⟩,gh.thr,gh.used,gh.steps,gh.fuel,gh.out,gh.len,gh.inp,by dsimp only;omega⟩
    refine ⟨HSR.out,⟨_,_,HWR.out⟩,Fq.refl _ _ _ _,g1,by rw [heH];dsimp only;omega,fun _=>?_,rfl,rfl,rfl,rfl,by rw [heH];exact HNN.out,Nat.le_refl _,HLP.out⟩
    rw [heH]
    exact ⟨HTH.out,⟨fun v hv=>⟨(gc.stk v hv).ref,(gc.stk v hv).num⟩,fun v hv=>⟨(gc.locs v hv).ref,(gc.locs v hv).num⟩,gc.ok,gc.room,gc.len,gc.me,gc.mok⟩,Int.le_refl _,by show (0:Int)≤_;omega⟩
   have HEV:Hid (Env w0 g (h.enterH m l)):=by
    refine HE.out.of ?_ ?_<;>(unfold Hp.enterH;split;exact (by first|exact (fin_le h 6).file|exact (fin_le h 6).input);split;exact (by first|exact (fin_le h 5).file|exact (fin_le h 5).input);rfl)
   have hpw:p<w.heap.size:=by obtain ⟨vo,vx,hv,X⟩:=HPW.out;exact lt_some X.blk
   obtain ⟨WA,hWA⟩:∃WA,WA=wr:=⟨wr,rfl⟩
   subst hWA
   clear HF HH HM HR HA HP HL HG HGH HSM HOK HGV HTH HNN HLP HEL HC hmk F1 HB1 HM1 H1 C3 L3 HB3 HWR HSR a1 a2 a3 a4 hL ho
   generalize h.enterH m l=h0 at *
   generalize newCal m l=c0 at *
   go_wp2
   go_loopw [13] (fun _ wr=>∃(k:Nat) (h1:Hp) (c1:Cal),Hid (L2 w0 g p ⟨w1.heap.size+1,w1.heap.size,m.locs.toNat,P,CC,K,pp,cc,kk⟩ m WA h0 N LP k h1 c1 wr)) (fun _ wr=>leftAt p h0.fuel wr)
   case atStart=>exact ⟨N,h0,c0,HST⟩
   case round =>
    obtain ⟨k,h1,c1,hL2⟩:=hrel
    have n3:w.heap.size+1≠w1.heap.size+1:=by omega
    have n4:w.heap.size+1≠w1.heap.size:=by omega
    have n5:w.heap.size≠w1.heap.size+1:=by omega
    have n6:w.heap.size≠w1.heap.size:=by omega
    have hpn:w.heap.size+1≠p:=by omega
    have hpn':p≠w.heap.size+1:=by omega
    have hqw:w.heap.size≤w1.heap.size+1:=by omega
    have hlw:w.heap.size≤w1.heap.size:=by omega
    have hst:0≤h1.sh.steps∧h1.sh.steps≤60000:=by have:=hL2.out.gh.steps;have:=hL2.out.gh.fuel;have:=hL2.out.gh.out;omega
    cases hsb:h1.stepB
    ·have HLE:Hid (LP=(h1.step.leave,va0)):=hL2.out.is.symm.trans (loop_end hsb)
     have hcb:0≤h1.step.calls∧h1.step.calls≤20:=by rw [(step_le h1).calls];exact hL2.out.gh.calls
     clear hst
     have hst:0≤h1.sh.steps∧h1.sh.steps≤60000:=by have:=hL2.out.gh.steps;have:=hL2.out.gh.fuel;have:=hL2.out.gh.out;omega
     go_wp2_with (go_at_call 54;refine (step_any w0 g HK.out p h1 _ hL2.out.hs hst).mono ?_;rintro e w2 ⟨he,h2,f2⟩;rw [hsb] at he;subst he;have FQ2:Hid (Fq w0.heap.size g.T ⟨w1.heap.size+1,w1.heap.size,m.locs.toNat,P,CC,K,pp,cc,kk⟩ WA w2):=hL2.out.fq.trans f2.fq;obtain ⟨vo,vx,hv,HX⟩:=h2;have c4:=HX.cells.c4;have f4:=HX.free 4;have HXA:Hid (HpAt w0 g w2 p h1.step vo vx hv):=HX;clear HX;have bx:=HBR.out.fq HK.out FQ2.out n3 n4;have r0:=bx.c0;have r1:=bx.c1;have r2:=bx.fr 0;have r3:=bx.fr 1;have HBX:Hid (VaBox w2 (w.heap.size+1) va0):=bx;clear bx)
     (try simp only [Exit.inBlock,Exit.then])
     refine bodyPost_ret (results_cell_row rfl _ _ (w.heap.size+1) _ _ _ _ rfl ((HBX.out.far hpn).set va0).blk Tryz.underlying62 rfl info_va) rfl ?_
     rw [HLE.out]
     exact ⟨rfl,⟨vo,vx,hv,(HXA.out.leave HK.out).cf ((HBX.out.far hpn).cf HK.out hbs1 _ _)⟩,((((Fq.fr HFR.out FQ2.out hqw hlw).trans (HXA.out.frSet 4 _)).new hle1 hbs1 _).new hle1 hbs1 _)⟩
    ·have hsb':=hsb
     unfold Hp.stepB at hsb'
     simp at hsb'
     obtain ⟨k',rfl⟩:∃k',k=k'+1:=⟨k-1,by have:=hL2.out.left;omega⟩
     have hle:=step_le h1
     have hse:h1.step={ h1 with sh:={ h1.sh with steps:=h1.sh.steps+1 } }:=by unfold Hp.step;rw [if_neg (by rw [hsb'.1];decide),if_neg (by omega)]
     obtain ⟨hth1,gc1,hpc1⟩:=hL2.out.inv hsb'.1
     have H2O:Hid (h1.step.over=false):=by show h1.step.over=false;rw [hse];exact hsb'.1
     have H2T:Hid (h1.step.thrown=-1):=by show h1.step.thrown=-1;rw [hse];exact hth1
     have G2:Hid (Gh 1 h1.step):=hL2.out.gh.step hsb
     have GC2:Hid (Gc h1.step c1):=gc1.le hle
     have HPC:Hid (0≤c1.pc∧c1.pc≤c1.m.code.length):=hpc1
     have HME2:Hid (c1.m=m):=hL2.out.me
     have HLF:Hid ((h1.step.fuel-h1.step.sh.steps).toNat≤k'):=by
      show (h1.step.fuel-h1.step.sh.steps).toNat≤k'
      have:=hL2.out.left
      rw [hse];dsimp only;omega
     have HKN:Hid (k'<N):=by have:=hL2.out.le;show k'<N;omega
     have HEV2:Hid (Env w0 g h1.step):=HEV.out.of (hle.file.trans hL2.out.file) (hle.input.trans hL2.out.inp)
     have HF2:Hid (h1.step.file=h0.file∧h1.step.input=h0.input∧h1.step.fuel=h0.fuel):=⟨hle.file.trans hL2.out.file,hle.input.trans hL2.out.inp,hle.fuel.trans hL2.out.fuel⟩
     have HC2:Hid (1≤h1.step.calls):=by show 1≤h1.step.calls;rw [hle.calls];exact hL2.out.calls
     have HLS:Hid (LP=stepP (loopP k') h1.step c1):=by
      show LP=_
      rw [←hL2.out.is]
      show (if h1.stepB=false then _ else _)=_
      rw [if_neg (by rw [hsb];decide)]
     have HMS:Hid (leftAt p h0.fuel wr=(h0.fuel-(h1.step.sh.steps-1)).toNat∧h1.step.sh.steps≤h0.fuel∧1≤h1.step.sh.steps):=by
      refine ⟨(left_is hL2.out.hs _).trans ?_,?_,?_⟩
      ·rw [hse];dsimp only;congr 1;omega
      ·have:=hL2.out.fuel;rw [hse];dsimp only;omega
      ·rw [hse];dsimp only;omega
     have SA:Hid (Calls Tryz.prog 54 #[.pointer (some ⟨p,0,none⟩)] wr fun e w'=>e=.returned (.bool true)∧Hs w0 g w' p h1.step∧Fr w0.heap.size g.T wr w'):=(step_any w0 g HK.out p h1 _ hL2.out.hs hst).mono fun e w' hh=>⟨by rw [hh.1,hsb],hh.2⟩
     have HCR:Hid (Cs w0 wr ⟨w1.heap.size+1,w1.heap.size,m.locs.toNat,P,CC,K,pp,cc,kk⟩ c1):=hL2.out.cs
     have HFQ:Hid (Fq w0.heap.size g.T ⟨w1.heap.size+1,w1.heap.size,m.locs.toNat,P,CC,K,pp,cc,kk⟩ WA wr):=hL2.out.fq
     clear hsb hsb' hse hle hth1 gc1 hpc1 hst hL2
     generalize h1.step=h2 at *
     by_cases hpc:c1.pc<m.code.length
     ·have hpl:=HPC.out
      obtain ⟨n,hn⟩:∃n:Nat,c1.pc=n:=⟨c1.pc.toNat,by omega⟩
      have HN:Hid (c1.pc=n):=hn
      have hnl:n<m.code.length:=by omega
      have hnm:m.code.length≤2 ^ 63-1:=by have:=HME.out.2.1.1;unfold maxLen at this;omega
      have hn0:(0:Int)≤(n:Int):=by omega
      have hn1:(n:Int)<(m.code.length:Int):=by omega
      obtain ⟨xb,xo,Qa,qq,hXC,HXI⟩:∃xb xo Qa qq,CC=some ⟨xb,xo,none⟩∧Hid (∀w',Bl w0 w'→w'.cell? ⟨xb,xo+n*6,none⟩=some (.int .i64 (nth in0 m.code n).op)∧w'.cell? ⟨xb,xo+n*6+1,none⟩=some (.int .i64 (nth in0 m.code n).a)∧w'.cell? ⟨xb,xo+n*6+2,none⟩=some (.int .i64 (nth in0 m.code n).b)∧w'.cell? ⟨xb,xo+n*6+3,none⟩=some (.int .i64 (nth in0 m.code n).c)∧w'.cell? ⟨xb,xo+n*6+4,none⟩=some (.int .i64 (nth in0 m.code n).n)∧w'.cell? ⟨xb,xo+n*6+5,none⟩=some (.slice Qa (nth in0 m.code n).args.length qq)):=by
       rcases HME.out.2.1.2 with h0'|⟨xb,xo,hX,hc⟩
       ·omega
       obtain ⟨e0,e1,e2,e3,e4,-,Qa,qq,e5,-⟩:=hc n hnl
       exact ⟨xb,xo,Qa,qq,hX,fun w' hb=>⟨hb.cell e0,hb.cell e1,hb.cell e2,hb.cell e3,hb.cell e4,hb.cell e5⟩⟩
      have HXC:Hid (CC=some ⟨xb,xo,none⟩):=hXC
      have hd:decide ((n:Int)<(m.code.length:Int))=true:=decide_eq_true hn1
      have hnv:(!h2.over)=true:=by rw [H2O.out];rfl
      have HOKI:Hid (InOk h2.file.classes h2.file.methods.length c1.m.code.length c1.locs.length (nth in0 m.code n)∧(nth in0 m.code n).ok):=by
       have:=code_ok GC2.out ⟨by omega,by rw [HME2.out];omega⟩
       rw [hn,Int.toNat_natCast,HME2.out] at this
       rw [HME2.out];exact this
      have HLS2:Hid (LP=if (nth in0 m.code n).op=20 then retP h2 c1 else nextP (loopP k') (doP k' h2 c1 (nth in0 m.code n))):=by
       show LP=_
       have e1:h2.mustB (decide (c1.pc<c1.m.code.length))=true:=by rw [must_is h2 H2O.out,HME2.out];exact decide_eq_true hpc
       rw [HLS.out]
       unfold stepP
       rw [if_neg (by rw [e1];decide),hn,Int.toNat_natCast,HME2.out]
       rfl
      clear hpl hn hpc hXC HLS
      generalize nth in0 m.code n=I at *
      go_wp2_with (go_at_call 54;refine SA.out.mono ?_;rintro e w2 ⟨rfl,hs2,f2⟩;have FQ2:Hid (Fq w0.heap.size g.T ⟨w1.heap.size+1,w1.heap.size,m.locs.toNat,P,CC,K,pp,cc,kk⟩ WA w2):=HFQ.out.trans f2.fq;have F2:Hid (Fr w0.heap.size g.T wr w2):=f2;have HS2:Hid (Hs w0 g w2 p h2):=hs2;obtain ⟨AA,ca2,CC2⟩:=HCR.out.fr HK.out f2;have d10:w2.cell? ⟨w1.heap.size+1,10,none⟩=some (.int .i64 (n:Int)):=(by rw [←HN.out];exact CC2.cells.c10);have m6:=(HMR.out.fq HK.out FQ2.out n5 n6).cells.c6;rw [HXC.out] at m6;have HC2A:Hid (CalAt w0 w2 ⟨w1.heap.size+1,w1.heap.size,m.locs.toNat,P,CC,K,pp,cc,kk⟩ c1 AA ca2):=CC2;obtain ⟨i0,i1,i2,i3,i4,i5⟩:=HXI.out w2 hs2.bl;have hq2:=lt_some CC2.blk;have hm2:=lt_some (HMR.out.fq HK.out FQ2.out n5 n6).blk;have hx2:=cell_lt i0;clear CC2 f2 hs2)
      go_region_held3 (fun w'=>w'.cell? ⟨w1.heap.size+1,10,none⟩=some (.int .i64 (n:Int))∧w'.cell? ⟨w.heap.size,6,none⟩=some (.slice (some ⟨xb,xo,none⟩) m.code.length cc))
       (go_keep)
       (first
        | (go_at_call 55;refine (must_true w0 g p h2 _ (by first|exact HS2.out.cf (Cf.drew (Cf.refl _ _ _))|exact HS2.out)).mono ?_;rintro e w3 ⟨he,hw3⟩;rw [hnv] at he;subst he;rw [hw3];clear hw3 w3))
      go_wp2
      go_region_held3 (fun w'=>w'.cell? ⟨w1.heap.size+1,10,none⟩=some (.int .i64 (n:Int))∧w'.cell? ⟨w.heap.size,6,none⟩=some (.slice (some ⟨xb,xo,none⟩) m.code.length cc)∧w'.cell? ⟨xb,xo+n*6,none⟩=some (.int .i64 I.op)∧w'.cell? ⟨xb,xo+n*6+1,none⟩=some (.int .i64 I.a)∧w'.cell? ⟨xb,xo+n*6+2,none⟩=some (.int .i64 I.b)∧w'.cell? ⟨xb,xo+n*6+3,none⟩=some (.int .i64 I.c)∧w'.cell? ⟨xb,xo+n*6+4,none⟩=some (.int .i64 I.n)∧w'.cell? ⟨xb,xo+n*6+5,none⟩=some (.slice Qa I.args.length qq))
       (go_keep)
       (fail)
      have bb5:Bl w2 (w2.alloc (.cells (inC I.op I.a I.b I.c I.n Qa I.args.length qq) 55)).drew.drew:=((Bl.refl w2).alloc _).drew.drew
      have HS5:Hid (Hs w0 g (w2.alloc (.cells (inC I.op I.a I.b I.c I.n Qa I.args.length qq) 55)).drew.drew p h2):=HS2.out.old bb5
      have HC5:Hid (CalAt w0 (w2.alloc (.cells (inC I.op I.a I.b I.c I.n Qa I.args.length qq) 55)).drew.drew ⟨w1.heap.size+1,w1.heap.size,m.locs.toNat,P,CC,K,pp,cc,kk⟩ c1 AA ca2):=HC2A.out.old bb5
      have F5:Hid (Fr w0.heap.size g.T wr (w2.alloc (.cells (inC I.op I.a I.b I.c I.n Qa I.args.length qq) 55)).drew.drew):=F2.out.trans (Fr.old HS2.out.base bb5)
      have FQ5:Hid (Fq w0.heap.size g.T ⟨w1.heap.size+1,w1.heap.size,m.locs.toNat,P,CC,K,pp,cc,kk⟩ WA (w2.alloc (.cells (inC I.op I.a I.b I.c I.n Qa I.args.length qq) 55)).drew.drew):=HFQ.out.trans F5.out.fq
      have HI5:Hid (InsBox (w2.alloc (.cells (inC I.op I.a I.b I.c I.n Qa I.args.length qq) 55)).drew.drew w2.heap.size I.op I.a I.b I.c I.n):=⟨_,(blk_at rfl:(w2.alloc (.cells (inC I.op I.a I.b I.c I.n Qa I.args.length qq) 55)).heap[w2.heap.size]?=_)⟩
      have m1:=(HMR.out.fq HK.out FQ5.out n5 n6).cells.c1
      have HM5:Hid (MthBox (w2.alloc (.cells (inC I.op I.a I.b I.c I.n Qa I.args.length qq) 55)).drew.drew w.heap.size m P CC K pp cc kk):=HMR.out.fq HK.out FQ5.out n5 n6
      clear bb5 i0 i1 i2 i3 i4 i5 d10 m6
      by_cases hop:I.op=20
      ·have HPLT:p<w2.heap.size:=(by obtain ⟨vo',vx',hv',X'⟩:=HS2.out;exact lt_some X'.blk)
       have hsz5:w2.heap.size<((w2.alloc (.cells (inC I.op I.a I.b I.c I.n Qa I.args.length qq) 55)).drew.drew).heap.size:=by simp
       obtain ⟨V5,hV5⟩:∃V5,V5=(w2.alloc (.cells #[.int .i64 I.op,.int .i64 I.a,.int .i64 I.b,.int .i64 I.c,.int .i64 I.n,.slice Qa I.args.length qq] 55)).drew.drew:=⟨_,rfl⟩
       rw [←hV5]
       have HS5':Hid (Hs w0 g V5 p h2):=by rw [hV5];exact HS5
       have HC5':Hid (CalAt w0 V5 ⟨w1.heap.size+1,w1.heap.size,m.locs.toNat,P,CC,K,pp,cc,kk⟩ c1 AA ca2):=by rw [hV5];exact HC5
       have FQ5':Hid (Fq w0.heap.size g.T ⟨w1.heap.size+1,w1.heap.size,m.locs.toNat,P,CC,K,pp,cc,kk⟩ WA V5):=by rw [hV5];exact FQ5
       have HM5':Hid (MthBox V5 w.heap.size m P CC K pp cc kk):=by rw [hV5];exact HM5
       have HI5':Hid (InsBox V5 w2.heap.size I.op I.a I.b I.c I.n):=by rw [hV5];exact HI5
       have hsz5':w2.heap.size<V5.heap.size:=by rw [hV5];exact hsz5
       clear hV5 HS5 HC5 FQ5 HM5 HI5 F5 hsz5 m1
       have hb5:=HS5'.out.base
       have m1:=HM5'.out.cells.c1
       have m2:=HM5'.out.cells.c2
       have j0:=HI5'.out.c0
       have hw5:w.heap.size+1<V5.heap.size:=by omega
       have hp5:p<V5.heap.size:=by omega
       have hw6:w.heap.size<V5.heap.size:=by omega
       by_cases hrk:m.ret.kind=0
       ·have HLE:Hid (LP=(h2.leave,va0)):=by
         show LP=_
         rw [HLS2.out,if_pos hop]
         unfold retP
         rw [if_pos (by rw [HME2.out];exact hrk)]
        have hz:(I.op==20)=true:=by simpa using hop
        have hrz:(m.ret.kind !=0)=false:=by simpa using hrk
        have hcb:0≤h2.calls∧h2.calls≤20:=G2.out.calls
        clear hop hrk
        have hs6:=HS5'.out
        obtain ⟨vo,vx,hv,HX⟩:=hs6
        have c4:=HX.cells.c4
        have f4:=HX.free 4
        have HXA:Hid (HpAt w0 g V5 p h2 vo vx hv):=HX
        clear HX
        have bx:=HBR.out.fq HK.out FQ5'.out n3 n4
        have r0:=bx.c0
        have r1:=bx.c1
        have r2:=bx.fr 0
        have r3:=bx.fr 1
        have HBX:Hid (VaBox V5 (w.heap.size+1) va0):=bx
        clear bx
        go_wp2
        (try simp only [Exit.inBlock,Exit.then])
        have hfb:=((HBX.out.far hpn).set va0:VaBox (((V5.setCell ⟨p,4,none⟩ (.int .i64 (h2.calls-1))).setCell ⟨w.heap.size+1,0,none⟩ (.int .i64 va0.kind)).setCell ⟨w.heap.size+1,1,none⟩ (.int .i64 va0.n)) (w.heap.size+1) va0).blk
        refine bodyPost_ret (results_cell_row rfl _ _ (w.heap.size+1) _ _ _ _ rfl (blk_up (o':=vzO) (lt_some hfb) hfb) Tryz.underlying62 rfl info_va) rfl ?_
        rw [HLE.out]
        have hsf:Hs w0 g (((V5.setCell ⟨p,4,none⟩ (.int .i64 (h2.calls-1))).setCell ⟨w.heap.size+1,0,none⟩ (.int .i64 va0.kind)).setCell ⟨w.heap.size+1,1,none⟩ (.int .i64 va0.n)) p h2.leave:=⟨vo,vx,hv,(HXA.out.leave HK.out).cf ((HBX.out.far hpn).cf HK.out hbs1 _ _)⟩
        have hff:Fr w0.heap.size g.T w (((V5.setCell ⟨p,4,none⟩ (.int .i64 (h2.calls-1))).setCell ⟨w.heap.size+1,0,none⟩ (.int .i64 va0.kind)).setCell ⟨w.heap.size+1,1,none⟩ (.int .i64 va0.n)):=((((Fq.fr HFR.out FQ5'.out hqw hlw).trans (HXA.out.frSet 4 _)).new hle1 hbs1 _).new hle1 hbs1 _)
        exact ⟨rfl,hsf.old ((Bl.refl _).alloc _),hff.trans (Fr.old hsf.base ((Bl.refl _).alloc _))⟩
       ·have bb6:Bl V5 (V5.alloc vzO):=(Bl.refl _).alloc _
        have HS6:Hid (Hs w0 g (V5.alloc vzO) p h2):=HS5'.out.old bb6
        have HC6:Hid (CalAt w0 (V5.alloc vzO) ⟨w1.heap.size+1,w1.heap.size,m.locs.toNat,P,CC,K,pp,cc,kk⟩ c1 AA ca2):=HC5'.out.old bb6
        have FQ6:Hid (Fq w0.heap.size g.T ⟨w1.heap.size+1,w1.heap.size,m.locs.toNat,P,CC,K,pp,cc,kk⟩ WA (V5.alloc vzO)):=FQ5'.out.trans (Fr.fq (Fr.old hb5 bb6))
        have HM6:Hid (MthBox (V5.alloc vzO) w.heap.size m P CC K pp cc kk):=⟨blk_up (lt_some HM5'.out.blk) HM5'.out.blk⟩
        have B11:Hid (VaBox (V5.alloc vzO) V5.heap.size va0):=⟨blk_at rfl⟩
        have s1:p≠V5.heap.size:=by omega
        have s2:V5.heap.size≠p:=by omega
        have s3:w.heap.size+1≠V5.heap.size:=by omega
        have s4:V5.heap.size≠w.heap.size+1:=by omega
        have s5:V5.heap.size≠w1.heap.size+1:=by have:=lt_some HC5'.out.blk;dsimp only at this;omega
        have s6:V5.heap.size≠w1.heap.size:=by have:=lt_some HC5'.out.loc.blk;dsimp only at this;omega
        have s7:w0.heap.size≤V5.heap.size:=hb5
        clear bb6
        by_cases hl:1≤c1.stk.length
        ·have hV3:=(top_gd GC2.out 1 0 (by omega) hl)
         obtain ⟨V,hVV⟩:∃V,(nth va0 (c1.top 1) 0)=V:=⟨_,rfl⟩
         have HVV:Hid ((nth va0 (c1.top 1) 0)=V):=hVV
         rw [hVV] at hV3
         have HV3:Hid (V.kind=3→V.n<h2.objs.length):=fun e=>(hV3.ref e).2
         obtain ⟨R,hR⟩:∃R,h2.of V ⟨m.ret.kind,m.ret.cls⟩=R:=⟨_,rfl⟩
         have HOF:Hid (h2.of V ⟨m.ret.kind,m.ret.cls⟩=R):=hR
         have HLE:Hid (LP=((h2.must R).leave,V)):=by
          show LP=_
          rw [HLS2.out,if_pos hop]
          unfold retP
          rw [if_neg (by rw [HME2.out];exact hrk)]
          dsimp only
          rw [must_has hl,hVV,H2O.out,HME2.out]
          show ((h2.must (true&&h2.of V ⟨m.ret.kind,m.ret.cls⟩)).leave,V)=_
          rw [hR];rfl
         have hcb:0≤(h2.must R).calls∧(h2.must R).calls≤20:=by rw [(must_le h2 R).calls];exact G2.out.calls
         have hz:(I.op==20)=true:=by simpa using hop
         have hrz:(m.ret.kind !=0)=true:=by simpa using hrk
         clear hop hrk hV3 hVV hR
         go_wp2_with (first
          | (go_at_call 56;refine (take_yes w0 g HK.out p h2 ⟨w1.heap.size+1,w1.heap.size,m.locs.toNat,P,CC,K,pp,cc,kk⟩ c1 1 _ AA ca2 HS6.out HC6.out H2O.out hl (by have:=GC2.out.short;omega)).mono ?_;rintro e w7 ⟨A1,cap1,cap2,rfl,st1,h7,c7,f7,-⟩;obtain ⟨b,off,rfl,hcell⟩:=st1.fst (by simp [top_length]);have t0:=(hcell 0 (by simp [top_length])).1;have t1:=(hcell 0 (by simp [top_length])).2;rw [Nat.zero_mul,Nat.add_zero] at t0 t1;clear hcell st1;rw [HVV.out] at t0 t1;have FQV:Hid (Fq w0.heap.size g.T ⟨w1.heap.size+1,w1.heap.size,m.locs.toNat,P,CC,K,pp,cc,kk⟩ WA (V5.alloc vzO)):=FQ6;have M7:=(HM6.out.fq HK.out f7 n5 n6).cells;have q1':=M7.c1;have q2':=M7.c2;clear M7;have B7:=B11.out.fq HK.out f7 s5 s6;have u0:=B7.c0;have u1:=B7.c1;have u2:=B7.fr 0;have u3:=B7.fr 1;have HB7:Hid (VaBox w7 V5.heap.size va0):=B7;clear B7;have o12:w7.cell? ⟨p,12,none⟩=some (.bool false):=(by obtain ⟨vo',vx',hv',X'⟩:=h7;rw [X'.cells.c12,H2O.out]);have W8S:Hid (Hs w0 g ((w7.setCell ⟨V5.heap.size,0,none⟩ (.int .i64 V.kind)).setCell ⟨V5.heap.size,1,none⟩ (.int .i64 V.n)) p h2):=h7.cf (HB7.out.cf HK.out s7 _ _);have W8B:Hid (VaBox ((w7.setCell ⟨V5.heap.size,0,none⟩ (.int .i64 V.kind)).setCell ⟨V5.heap.size,1,none⟩ (.int .i64 V.n)) V5.heap.size V):=HB7.out.set V;have F8:Hid (Fq w0.heap.size g.T ⟨w1.heap.size+1,w1.heap.size,m.locs.toNat,P,CC,K,pp,cc,kk⟩ WA ((w7.setCell ⟨V5.heap.size,0,none⟩ (.int .i64 V.kind)).setCell ⟨V5.heap.size,1,none⟩ (.int .i64 V.n))):=Fq.box2 (FQV.out.trans f7) FQ5'.out.bl.size s7 _ _;clear h7 c7)
          | (go_at_call 57;refine (of_any w0 g p h2 V ⟨m.ret.kind,m.ret.cls⟩ _ W8S.out HEV2.out.cw.cls HEV2.out.cw.tree HV3.out).mono ?_;rintro e w9 ⟨he,h9,f9,b9⟩;rw [HOF.out] at he;subst he;have B9:Hid (VaBox w9 V5.heap.size V):=W8B.out.keep HK.out f9;have F9:Hid (Fq w0.heap.size g.T ⟨w1.heap.size+1,w1.heap.size,m.locs.toNat,P,CC,K,pp,cc,kk⟩ WA w9):=F8.out.trans f9.fq;have HS9:Hid (Hs w0 g w9 p h2):=h9;clear h9 f9 b9)
          | (go_at_call 55;refine (must_any w0 g HK.out p h2 R _ HS9.out).mono ?_;rintro e w10 ⟨rfl,h10,f10⟩;have B10:=B9.out.keep HK.out f10;have k0:=B10.c0;have k1:=B10.c1;clear B10;have F10:Hid (Fq w0.heap.size g.T ⟨w1.heap.size+1,w1.heap.size,m.locs.toNat,P,CC,K,pp,cc,kk⟩ WA w10):=F9.out.trans f10.fq;obtain ⟨vo,vx,hv,HX⟩:=h10;have c4:=HX.cells.c4;have f4:=HX.free 4;have HXA:Hid (HpAt w0 g w10 p (h2.must R) vo vx hv):=HX;clear HX;have bx:=HBR.out.fq HK.out F10.out n3 n4;have r0:=bx.c0;have r1:=bx.c1;have r2:=bx.fr 0;have r3:=bx.fr 1;have HBX:Hid (VaBox w10 (w.heap.size+1) va0):=bx;clear bx))
         (try simp only [Exit.inBlock,Exit.then])
         refine bodyPost_ret (results_cell_row rfl _ _ (w.heap.size+1) _ _ _ _ rfl ((HBX.out.far hpn).set V).blk Tryz.underlying62 rfl info_va) rfl ?_
         rw [HLE.out]
         exact ⟨rfl,⟨vo,vx,hv,(HXA.out.leave HK.out).cf ((HBX.out.far hpn).cf HK.out hbs1 _ _)⟩,((((Fq.fr HFR.out F10.out hqw hlw).trans (HXA.out.frSet 4 _)).new hle1 hbs1 _).new hle1 hbs1 _)⟩
        ·have hl:c1.stk.length<1:=by omega
         have HFO:Hid ((h2.fin 6).over=true):=fin_over H2O.out
         have HFF:Hid ((h2.fin 6).must false=h2.fin 6):=fin_fin h2 6 6 H2O.out
         have HZ0:Hid (nth va0 (List.replicate 1 va0) 0=va0):=rfl
         have HLE:Hid (LP=((h2.fin 6).leave,va0)):=by
          show LP=_
          rw [HLS2.out,if_pos hop]
          unfold retP
          rw [if_neg (by rw [HME2.out];exact hrk)]
          dsimp only
          rw [must_hasn (by omega),top_no (by omega),HFO.out]
          show (((h2.fin 6).must (false&&_)).leave,nth va0 (List.replicate 1 va0) 0)=_
          rw [Bool.false_and,HFF.out];rfl
         have hcb:0≤(h2.fin 6).calls∧(h2.fin 6).calls≤20:=by rw [(fin_le h2 6).calls];exact G2.out.calls
         have hz:(I.op==20)=true:=by simpa using hop
         have hrz:(m.ret.kind !=0)=true:=by simpa using hrk
         clear hop hrk
         go_wp2_with (first
          | (go_at_call 56;refine (take_no w0 g HK.out p h2 ⟨w1.heap.size+1,w1.heap.size,m.locs.toNat,P,CC,K,pp,cc,kk⟩ c1 1 _ AA ca2 HS6.out HC6.out H2O.out hl (by omega)).mono ?_;rintro e w7 ⟨A1,cap1,cap2,rfl,st1,h7,c7,f7,-⟩;obtain ⟨b,off,rfl,hcell⟩:=st1.fst (by simp);have t0:=(hcell 0 (by simp)).1;have t1:=(hcell 0 (by simp)).2;rw [Nat.zero_mul,Nat.add_zero] at t0 t1;clear hcell st1;rw [HZ0.out] at t0 t1;have FQV:Hid (Fq w0.heap.size g.T ⟨w1.heap.size+1,w1.heap.size,m.locs.toNat,P,CC,K,pp,cc,kk⟩ WA (V5.alloc vzO)):=FQ6;have M7:=(HM6.out.fq HK.out f7 n5 n6).cells;have q1':=M7.c1;have q2':=M7.c2;clear M7;have B7:=B11.out.fq HK.out f7 s5 s6;have u0:=B7.c0;have u1:=B7.c1;have u2:=B7.fr 0;have u3:=B7.fr 1;have HB7:Hid (VaBox w7 V5.heap.size va0):=B7;clear B7;have o12:w7.cell? ⟨p,12,none⟩=some (.bool true):=(by obtain ⟨vo',vx',hv',X'⟩:=h7;rw [X'.cells.c12,HFO.out]);have W8S:Hid (Hs w0 g ((w7.setCell ⟨V5.heap.size,0,none⟩ (.int .i64 va0.kind)).setCell ⟨V5.heap.size,1,none⟩ (.int .i64 va0.n)) p (h2.fin 6)):=h7.cf (HB7.out.cf HK.out s7 _ _);have W8B:Hid (VaBox ((w7.setCell ⟨V5.heap.size,0,none⟩ (.int .i64 va0.kind)).setCell ⟨V5.heap.size,1,none⟩ (.int .i64 va0.n)) V5.heap.size va0):=HB7.out.set va0;have F8:Hid (Fq w0.heap.size g.T ⟨w1.heap.size+1,w1.heap.size,m.locs.toNat,P,CC,K,pp,cc,kk⟩ WA ((w7.setCell ⟨V5.heap.size,0,none⟩ (.int .i64 va0.kind)).setCell ⟨V5.heap.size,1,none⟩ (.int .i64 va0.n))):=Fq.box2 (FQV.out.trans f7) FQ5'.out.bl.size s7 _ _;clear h7 c7)
          | (go_at_call 55;refine (must_any w0 g HK.out p (h2.fin 6) false _ W8S.out).mono ?_;rintro e w10 ⟨rfl,h10,f10⟩;rw [HFF.out] at h10;have B10:=W8B.out.keep HK.out f10;have k0:=B10.c0;have k1:=B10.c1;clear B10;have F10:Hid (Fq w0.heap.size g.T ⟨w1.heap.size+1,w1.heap.size,m.locs.toNat,P,CC,K,pp,cc,kk⟩ WA w10):=F8.out.trans f10.fq;obtain ⟨vo,vx,hv,HX⟩:=h10;have c4:=HX.cells.c4;have f4:=HX.free 4;have HXA:Hid (HpAt w0 g w10 p (h2.fin 6) vo vx hv):=HX;clear HX;have bx:=HBR.out.fq HK.out F10.out n3 n4;have r0:=bx.c0;have r1:=bx.c1;have r2:=bx.fr 0;have r3:=bx.fr 1;have HBX:Hid (VaBox w10 (w.heap.size+1) va0):=bx;clear bx))
         (try simp only [Exit.inBlock,Exit.then])
         refine bodyPost_ret (results_cell_row rfl _ _ (w.heap.size+1) _ _ _ _ rfl ((HBX.out.far hpn).set va0).blk Tryz.underlying62 rfl info_va) rfl ?_
         rw [HLE.out]
         exact ⟨rfl,⟨vo,vx,hv,(HXA.out.leave HK.out).cf ((HBX.out.far hpn).cf HK.out hbs1 _ _)⟩,((((Fq.fr HFR.out F10.out hqw hlw).trans (HXA.out.frSet 4 _)).new hle1 hbs1 _).new hle1 hbs1 _)⟩
      ·have DA:Hid (∀w',Hs w0 g w' p h2→Cs w0 w' ⟨w1.heap.size+1,w1.heap.size,m.locs.toNat,P,CC,K,pp,cc,kk⟩ c1→Calls Tryz.prog 58 #[.pointer (some ⟨p,0,none⟩),.pointer (some ⟨w1.heap.size+1,0,none⟩),.agg (inC I.op I.a I.b I.c I.n Qa I.args.length qq)] w' fun e w'' =>
         e=.returned (.int .i64 (doP k' h2 c1 I).nx)∧Hs w0 g w'' p (doP k' h2 c1 I).h∧Cs w0 w'' ⟨w1.heap.size+1,w1.heap.size,m.locs.toNat,P,CC,K,pp,cc,kk⟩ (doP k' h2 c1 I).c∧Fq w0.heap.size g.T ⟨w1.heap.size+1,w1.heap.size,m.locs.toNat,P,CC,K,pp,cc,kk⟩ w' w''):=fun w' a1 a2 =>
        do_any w0 g p h2 ⟨w1.heap.size+1,w1.heap.size,m.locs.toNat,P,CC,K,pp,cc,kk⟩ c1 I Qa I.args.length qq w' a1 a2 HEV2.out H2O.out ⟨by rw [HN.out];omega,by rw [HN.out,HME2.out];omega⟩ hop k' (HIH.out k' HKN.out) G2.out H2T.out GC2.out HOKI.out.1 HLF.out
       have KD:Hid (Kept h2 c1 (doP k' h2 c1 I)):=do_kept HEV2.out.may G2.out GC2.out H2O.out H2T.out HOKI.out.1 HOKI.out.2 ⟨by rw [HN.out];omega,by rw [HN.out,HME2.out];omega⟩
       have HLN:Hid (LP=nextP (loopP k') (doP k' h2 c1 I)):=by show LP=_;rw [HLS2.out,if_neg hop]
       have hz:(I.op==20)=false:=by simpa using hop
       clear hop HLS2 HOKI
       generalize doP k' h2 c1 I=D at *
       cases hov:D.h.over
       ·by_cases ht:0≤D.h.thrown
        ·have HCA:Hid (∀w',Hs w0 g w' p D.h→Calls Tryz.prog 59 #[.pointer (some ⟨p,0,none⟩),meV m P CC K pp cc kk,.int .i64 (n:Int)] w' fun e w''=>e=.returned (.int .i64 (D.h.caughtL (n:Int) m.hands))∧Hs w0 g w'' p D.h∧Fr w0.heap.size g.T w' w''):=fun w' hx=>caught_any w0 g p D.h m P CC K pp cc kk (n:Int) w' hx (HEV2.out.le KD.out.le).cw HME.out.2.2.1 ⟨ht,KD.out.gh.thr.2⟩
         have HPD:Hid (D.c.pc=n):=KD.out.pc.trans HN.out
         have HMD:Hid (D.c.m=m):=KD.out.m.trans HME2.out
         have hd13:decide (0≤D.h.thrown)=true:=decide_eq_true ht
         have GCD:Hid (Gc D.h D.c):=KD.out.gc hov
         have HLC:Hid (LP=if D.h.caughtL (n:Int) m.hands<0 then (D.h.leave,va0) else loopP k' (({ D.h with thrown:=-1 }:Hp).putH { D.c with stk:=[] } ⟨3,D.h.thrown⟩) { (({ D.c with stk:=[] }:Cal).put ⟨3,D.h.thrown⟩) with pc:=D.h.caughtL (n:Int) m.hands }):=by
          show LP=_
          rw [HLN.out];unfold nextP;rw [if_neg (by rw [hov];decide),if_pos ht,HPD.out,HMD.out]
         have HAB:Hid (D.h.caughtL (n:Int) m.hands=-1∨(0≤D.h.caughtL (n:Int) m.hands∧D.h.caughtL (n:Int) m.hands<D.c.m.code.length)):=by
          have:=caught_at (h:=D.h) (pc:=(n:Int)) (n:=D.c.m.code.length) (k:=D.h.file.classes.length) D.c.m.hands (smeP GCD.out.me).2.2.2.2.2.2.2.2.2.1
          rw [HMD.out] at this ⊢;exact this
         generalize D.h.caughtL (n:Int) m.hands=AT at *
         by_cases hat:AT<0
         ·have HLE:Hid (LP=(D.h.leave,va0)):=by show LP=_;rw [HLC.out,if_pos hat]
          have hdat:decide (AT<0)=true:=decide_eq_true hat
          have hcb:0≤D.h.calls∧D.h.calls≤20:=KD.out.gh.calls
          go_wp2_with (go_at_call 58;refine (DA.out _ HS5.out ⟨AA,ca2,HC5.out⟩).mono ?_;rintro e w6 ⟨rfl,hs6,cs6,fq6⟩;have FQ6:Hid (Fq w0.heap.size g.T ⟨w1.heap.size+1,w1.heap.size,m.locs.toNat,P,CC,K,pp,cc,kk⟩ WA w6):=FQ5.out.trans fq6;have HS6:Hid (Hs w0 g w6 p D.h):=hs6;have HCS6:Hid (Cs w0 w6 ⟨w1.heap.size+1,w1.heap.size,m.locs.toNat,P,CC,K,pp,cc,kk⟩ D.c):=cs6;have o12:w6.cell? ⟨p,12,none⟩=some (.bool false):=(by obtain ⟨vo,vx,hv,X⟩:=hs6;rw [X.cells.c12,hov]);have o13:w6.cell? ⟨p,13,none⟩=some (.int .i64 D.h.thrown):=(by obtain ⟨vo,vx,hv,X⟩:=hs6;exact X.cells.c13);clear hs6 cs6 fq6;obtain ⟨A6,cap6,C6⟩:=HCS6.out;have e10:w6.cell? ⟨w1.heap.size+1,10,none⟩=some (.int .i64 (n:Int)):=(by rw [←HPD.out];exact C6.cells.c10);have HC6:Hid (CalAt w0 w6 ⟨w1.heap.size+1,w1.heap.size,m.locs.toNat,P,CC,K,pp,cc,kk⟩ D.c A6 cap6):=C6;clear C6;have x:=(HMR.out.fq HK.out FQ6.out n5 n6).cells;have x0:=x.c0;have x1:=x.c1;have x2:=x.c2;have x3:=x.c3;have x4:=x.c4;have x5:=x.c5;have x6:=x.c6;have x7:=x.c7;clear x)
          go_region_held3 (fun w'=>w'.cell? ⟨w.heap.size,0,none⟩=some (.slice P m.params.length pp)∧w'.cell? ⟨w.heap.size,1,none⟩=some (.int .i64 m.ret.kind)∧w'.cell? ⟨w.heap.size,2,none⟩=some (.int .i64 m.ret.cls)∧w'.cell? ⟨w.heap.size,3,none⟩=some (.int .i64 m.stack)∧w'.cell? ⟨w.heap.size,4,none⟩=some (.int .i64 m.locs)∧w'.cell? ⟨w.heap.size,5,none⟩=some (.int .i64 m.regs)∧w'.cell? ⟨w.heap.size,6,none⟩=some (.slice CC m.code.length cc)∧w'.cell? ⟨w.heap.size,7,none⟩=some (.slice K m.hands.length kk)∧w'.cell? ⟨w1.heap.size+1,10,none⟩=some (.int .i64 (n:Int)))
           (go_keep)
           (first
            | (go_at_call 59;refine (HCA.out _ (by first|exact HS6.out.cf (Cf.drew (Cf.refl _ _ _))|exact HS6.out)).mono ?_;rintro e w7 ⟨rfl,hs7,f7⟩;have F7:Hid (Fr w0.heap.size g.T w6 w7):=Fr.trans (Fr.drew (Fr.refl _ _ _)) f7;have FQ7:Hid (Fq w0.heap.size g.T ⟨w1.heap.size+1,w1.heap.size,m.locs.toNat,P,CC,K,pp,cc,kk⟩ WA w7):=FQ6.out.trans F7.out.fq;have HS7:Hid (Hs w0 g w7 p D.h):=hs7;have C7:=HC6.out.fr HK.out F7.out;have g10:w7.cell? ⟨w1.heap.size+1,10,none⟩=some (.int .i64 (n:Int)):=(by rw [←HPD.out];exact C7.cells.c10);have HC7:Hid (CalAt w0 w7 ⟨w1.heap.size+1,w1.heap.size,m.locs.toNat,P,CC,K,pp,cc,kk⟩ D.c A6 cap6):=C7;clear C7 f7;have y:=(HMR.out.fq HK.out FQ7.out n5 n6).cells;have y0:=y.c0;have y1:=y.c1;have y2:=y.c2;have y3:=y.c3;have y4:=y.c4;have y5:=y.c5;have y6:=y.c6;have y7:=y.c7;clear y;obtain ⟨vo,vx,hv,HX⟩:=hs7;have c4:=HX.cells.c4;have f4:=HX.free 4;have HXA:Hid (HpAt w0 g w7 p D.h vo vx hv):=HX;clear HX;have bx:=HBR.out.fq HK.out FQ7.out n3 n4;have r0:=bx.c0;have r1:=bx.c1;have r2:=bx.fr 0;have r3:=bx.fr 1;have HBX:Hid (VaBox w7 (w.heap.size+1) va0):=bx;clear bx))
          go_wp2
          (try simp only [Exit.inBlock,Exit.then])
          refine bodyPost_ret (results_cell_row rfl _ _ (w.heap.size+1) _ _ _ _ rfl ((HBX.out.far hpn).set va0).blk Tryz.underlying62 rfl info_va) rfl ?_
          rw [HLE.out]
          exact ⟨rfl,⟨vo,vx,hv,(HXA.out.leave HK.out).cf ((HBX.out.far hpn).cf HK.out hbs1 _ _)⟩,((((Fq.fr HFR.out FQ7.out hqw hlw).trans (HXA.out.frSet 4 _)).new hle1 hbs1 _).new hle1 hbs1 _)⟩
         ·have HLE:Hid (loopP k' (({ D.h with thrown:=-1 }:Hp).putH ({ D.c with stk:=[] }:Cal) (⟨3,D.h.thrown⟩:Va)) { (({ D.c with stk:=[] }:Cal).put (⟨3,D.h.thrown⟩:Va)) with pc:=AT }=LP):=by show _=LP;rw [HLC.out,if_neg hat]
          have hdat:decide (AT<0)=false:=decide_eq_false hat
          go_wp2_with (go_at_call 58;refine (DA.out _ HS5.out ⟨AA,ca2,HC5.out⟩).mono ?_;rintro e w6 ⟨rfl,hs6,cs6,fq6⟩;have FQ6:Hid (Fq w0.heap.size g.T ⟨w1.heap.size+1,w1.heap.size,m.locs.toNat,P,CC,K,pp,cc,kk⟩ WA w6):=FQ5.out.trans fq6;have HS6:Hid (Hs w0 g w6 p D.h):=hs6;have HCS6:Hid (Cs w0 w6 ⟨w1.heap.size+1,w1.heap.size,m.locs.toNat,P,CC,K,pp,cc,kk⟩ D.c):=cs6;have o12:w6.cell? ⟨p,12,none⟩=some (.bool false):=(by obtain ⟨vo,vx,hv,X⟩:=hs6;rw [X.cells.c12,hov]);have o13:w6.cell? ⟨p,13,none⟩=some (.int .i64 D.h.thrown):=(by obtain ⟨vo,vx,hv,X⟩:=hs6;exact X.cells.c13);clear hs6 cs6 fq6;obtain ⟨A6,cap6,C6⟩:=HCS6.out;have e10:w6.cell? ⟨w1.heap.size+1,10,none⟩=some (.int .i64 (n:Int)):=(by rw [←HPD.out];exact C6.cells.c10);have HC6:Hid (CalAt w0 w6 ⟨w1.heap.size+1,w1.heap.size,m.locs.toNat,P,CC,K,pp,cc,kk⟩ D.c A6 cap6):=C6;clear C6;have x:=(HMR.out.fq HK.out FQ6.out n5 n6).cells;have x0:=x.c0;have x1:=x.c1;have x2:=x.c2;have x3:=x.c3;have x4:=x.c4;have x5:=x.c5;have x6:=x.c6;have x7:=x.c7;clear x)
          go_region_held3 (fun w'=>w'.cell? ⟨w.heap.size,0,none⟩=some (.slice P m.params.length pp)∧w'.cell? ⟨w.heap.size,1,none⟩=some (.int .i64 m.ret.kind)∧w'.cell? ⟨w.heap.size,2,none⟩=some (.int .i64 m.ret.cls)∧w'.cell? ⟨w.heap.size,3,none⟩=some (.int .i64 m.stack)∧w'.cell? ⟨w.heap.size,4,none⟩=some (.int .i64 m.locs)∧w'.cell? ⟨w.heap.size,5,none⟩=some (.int .i64 m.regs)∧w'.cell? ⟨w.heap.size,6,none⟩=some (.slice CC m.code.length cc)∧w'.cell? ⟨w.heap.size,7,none⟩=some (.slice K m.hands.length kk)∧w'.cell? ⟨w1.heap.size+1,10,none⟩=some (.int .i64 (n:Int)))
           (go_keep)
           (first
            | (go_at_call 59;refine (HCA.out _ (by first|exact HS6.out.cf (Cf.drew (Cf.refl _ _ _))|exact HS6.out)).mono ?_;rintro e w7 ⟨rfl,hs7,f7⟩;have F7:Hid (Fr w0.heap.size g.T w6 w7):=Fr.trans (Fr.drew (Fr.refl _ _ _)) f7;have FQ7:Hid (Fq w0.heap.size g.T ⟨w1.heap.size+1,w1.heap.size,m.locs.toNat,P,CC,K,pp,cc,kk⟩ WA w7):=FQ6.out.trans F7.out.fq;have HS7:Hid (Hs w0 g w7 p D.h):=hs7;have C7:=HC6.out.fr HK.out F7.out;have g10:w7.cell? ⟨w1.heap.size+1,10,none⟩=some (.int .i64 (n:Int)):=(by rw [←HPD.out];exact C7.cells.c10);have HC7:Hid (CalAt w0 w7 ⟨w1.heap.size+1,w1.heap.size,m.locs.toNat,P,CC,K,pp,cc,kk⟩ D.c A6 cap6):=C7;clear C7 f7;have y:=(HMR.out.fq HK.out FQ7.out n5 n6).cells;have y0:=y.c0;have y1:=y.c1;have y2:=y.c2;have y3:=y.c3;have y4:=y.c4;have y5:=y.c5;have y6:=y.c6;have y7:=y.c7;clear y;obtain ⟨vo7,vx7,hv7,X7⟩:=hs7;have z13:=X7.cells.c13;have zf13:=X7.free 13;have zp:=lt_some X7.blk;clear X7;have q9:=HC7.out.cells.c9;have qf9:=HC7.out.free 9;have qf10:=HC7.out.free 10;have zq:=lt_some HC7.out.blk;dsimp only at q9 qf9 qf10 zq))
          have HW9:Hid (Hs w0 g (((w7.setCell ⟨w1.heap.size+1,9,none⟩ (.slice none 0 0)).setCell ⟨p,13,none⟩ (.int .i64 (-1))).alloc (.cells #[.int .i64 3,.int .i64 D.h.thrown] 62)) p ({ D.h with thrown:=-1 }:Hp)∧CalAt w0 (((w7.setCell ⟨w1.heap.size+1,9,none⟩ (.slice none 0 0)).setCell ⟨p,13,none⟩ (.int .i64 (-1))).alloc (.cells #[.int .i64 3,.int .i64 D.h.thrown] 62)) ⟨w1.heap.size+1,w1.heap.size,m.locs.toNat,P,CC,K,pp,cc,kk⟩ ({ D.c with stk:=[] }:Cal) none 0∧Fq w0.heap.size g.T ⟨w1.heap.size+1,w1.heap.size,m.locs.toNat,P,CC,K,pp,cc,kk⟩ WA (((w7.setCell ⟨w1.heap.size+1,9,none⟩ (.slice none 0 0)).setCell ⟨p,13,none⟩ (.int .i64 (-1))).alloc (.cells #[.int .i64 3,.int .i64 D.h.thrown] 62))):=by
           have c8:=HC7.out.setStk (A':=none) (cap':=0) (l:=[]) (Or.inl rfl) (Nat.le_refl _)
           have h8:=HS7.out.cf (HC7.out.cf HK.out 9 (.slice none 0 0))
           have q8:=FQ7.out.trans (HC7.out.fq g.T 9 (.slice none 0 0))
           obtain ⟨vo,vx,hv,X⟩:=h8
           have h9:Hs w0 g ((w7.setCell ⟨w1.heap.size+1,9,none⟩ (.slice none 0 0)).setCell ⟨p,13,none⟩ (.int .i64 (-1))) p ({ D.h with thrown:=-1 }:Hp):=⟨vo,vx,hv,X.set HK.out ({ D.h with thrown:=-1 }:Hp) rfl rfl rfl⟩
           have c9:=c8.fr HK.out (X.frSet 13 (.int .i64 (-1)))
           have q9':=q8.trans (X.frSet 13 (.int .i64 (-1))).fq
           have b9:Bl ((w7.setCell ⟨w1.heap.size+1,9,none⟩ (.slice none 0 0)).setCell ⟨p,13,none⟩ (.int .i64 (-1))) (((w7.setCell ⟨w1.heap.size+1,9,none⟩ (.slice none 0 0)).setCell ⟨p,13,none⟩ (.int .i64 (-1))).alloc (.cells #[.int .i64 3,.int .i64 D.h.thrown] 62)):=(Bl.refl _).alloc _
           exact ⟨h9.old b9,c9.old b9,q9'.trans (Fr.fq (Fr.old h9.base b9))⟩
          go_wp2_with (go_at_call 60;refine (cput_any w0 g HK.out p ({ D.h with thrown:=-1 }:Hp) ⟨w1.heap.size+1,w1.heap.size,m.locs.toNat,P,CC,K,pp,cc,kk⟩ ({ D.c with stk:=[] }:Cal) (⟨3,D.h.thrown⟩:Va) _ HW9.out.1 ⟨none,0,HW9.out.2.1⟩ (by simp)).mono ?_;rintro e w10 ⟨rfl,hs10,cs10,fq10⟩;obtain ⟨A10,cap10,C10⟩:=cs10;have s10:w10.cell? ⟨w1.heap.size+1,10,none⟩=some (.int .i64 D.c.pc):=C10.cells.c10;have sf10:w10.frozen? ⟨w1.heap.size+1,10,none⟩=false:=C10.free 10;have HC10:Hid (CalAt w0 w10 ⟨w1.heap.size+1,w1.heap.size,m.locs.toNat,P,CC,K,pp,cc,kk⟩ (({ D.c with stk:=[] }:Cal).put (⟨3,D.h.thrown⟩:Va)) A10 cap10):=C10;have HS10:Hid (Hs w0 g w10 p (({ D.h with thrown:=-1 }:Hp).putH ({ D.c with stk:=[] }:Cal) (⟨3,D.h.thrown⟩:Va))):=hs10;have FQ10:Hid (Fq w0.heap.size g.T ⟨w1.heap.size+1,w1.heap.size,m.locs.toNat,P,CC,K,pp,cc,kk⟩ WA w10):=HW9.out.2.2.trans fq10;clear C10 hs10 fq10)
          have lt':Le D.h ({ D.h with thrown:=-1 }:Hp):=⟨rfl,rfl,rfl,Nat.le_refl _,Int.le_refl _,rfl⟩
          have LE10:Hid (Le h2 (({ D.h with thrown:=-1 }:Hp).putH ({ D.c with stk:=[] }:Cal) (⟨3,D.h.thrown⟩:Va))):=(KD.out.le.trans lt').trans (putH_le _ _ _)
          have gt:Gh 0 ({ D.h with thrown:=-1 }:Hp):=KD.out.gh.same rfl rfl rfl rfl rfl rfl rfl ⟨by dsimp only;omega,by dsimp only;omega⟩
          have gv:GdV ({ D.h with thrown:=-1 }:Hp) (⟨3,D.h.thrown⟩:Va):=⟨fun _=>⟨by dsimp only;omega,KD.out.gh.thr.2⟩,by have:=KD.out.gh.thr;have:=KD.out.gh.len;dsimp only;unfold I64;omega⟩
          have gc0:Gc ({ D.h with thrown:=-1 }:Hp) ({ D.c with stk:=[] }:Cal):=by
           have x:=GCD.out.le lt'
           refine ⟨fun v hv=>by simp at hv,x.locs,x.ok,?_,x.len,x.me,x.mok⟩
           have:=(smeP x.me).1
           show ((sizP []:Nat):Int)≤_
           simp [sizP];exact this
          have hst0:({ D.h with thrown:=-1 }:Hp).stops=false:=by unfold Hp.stops;dsimp only;rw [hov];rfl
          have HIV:Hid (Inv (({ D.h with thrown:=-1 }:Hp).putH ({ D.c with stk:=[] }:Cal) (⟨3,D.h.thrown⟩:Va)) { (({ D.c with stk:=[] }:Cal).put (⟨3,D.h.thrown⟩:Va)) with pc:=AT }):=fun ho2=>⟨putH_thrown _ _ _,(put_kept gc0 gv hst0 ho2).pc _,by have:=HAB.out;dsimp only;omega,by have:=HAB.out;show AT≤D.c.m.code.length;omega⟩
          have HGH10:Hid (Gh 0 (({ D.h with thrown:=-1 }:Hp).putH ({ D.c with stk:=[] }:Cal) (⟨3,D.h.thrown⟩:Va))):=gt.putH _ _
          go_roundw
          case rel=>exact ⟨k',(({ D.h with thrown:=-1 }:Hp).putH ({ D.c with stk:=[] }:Cal) (⟨3,D.h.thrown⟩:Va)),{ (({ D.c with stk:=[] }:Cal).put (⟨3,D.h.thrown⟩:Va)) with pc:=AT },⟨HS10.out.cf (HC10.out.cf HK.out 10 _),⟨_,_,HC10.out.setPc _⟩,FQ10.out.trans (HC10.out.fq _ 10 _),HGH10.out,by rw [LE10.out.calls];exact HC2.out,HIV.out,KD.out.m.trans HME2.out,LE10.out.file.trans HF2.out.1,LE10.out.input.trans HF2.out.2.1,LE10.out.fuel.trans HF2.out.2.2,by have:=LE10.out.steps;have:=LE10.out.fuel;have:=HLF.out;omega,Nat.le_of_lt HKN.out,HLE.out⟩⟩
          case measure =>
           have hm1:=left_is (HS10.out.cf (HC10.out.cf HK.out 10 (.int .i64 AT))) h0.fuel
           have key:∀S:Int,h2.sh.steps≤S→(h0.fuel-S).toNat<leftAt p h0.fuel wr:=fun S hS=>by have hm2:=HMS.out;rw [hm2.1];omega
           rw [hm1]
           exact key _ LE10.out.steps
        ·have ht':D.h.thrown=-1:=by have:=KD.out.gh.thr;omega
         have HTD:Hid (D.h.thrown=-1):=ht'
         have HLE:Hid (loopP k' D.h { D.c with pc:=D.nx }=LP):=by
          show _=LP
          rw [HLN.out];unfold nextP;rw [if_neg (by rw [hov];decide),if_neg ht]
         have hd13:decide (0≤D.h.thrown)=false:=decide_eq_false ht
         have GCD:Hid (Gc D.h D.c):=KD.out.gc hov
         have HNXT:Hid (0≤D.nx∧D.nx≤D.c.m.code.length):=by show _∧_;rw [KD.out.m];exact KD.out.nx
         clear ht ht'
         go_wp2_with (go_at_call 58;refine (DA.out _ HS5.out ⟨AA,ca2,HC5.out⟩).mono ?_;rintro e w6 ⟨rfl,hs6,cs6,fq6⟩;have FQ6:Hid (Fq w0.heap.size g.T ⟨w1.heap.size+1,w1.heap.size,m.locs.toNat,P,CC,K,pp,cc,kk⟩ WA w6):=FQ5.out.trans fq6;have HS6:Hid (Hs w0 g w6 p D.h):=hs6;have HCS6:Hid (Cs w0 w6 ⟨w1.heap.size+1,w1.heap.size,m.locs.toNat,P,CC,K,pp,cc,kk⟩ D.c):=cs6;have o12:w6.cell? ⟨p,12,none⟩=some (.bool false):=(by obtain ⟨vo,vx,hv,X⟩:=hs6;rw [X.cells.c12,hov]);have o13:w6.cell? ⟨p,13,none⟩=some (.int .i64 D.h.thrown):=(by obtain ⟨vo,vx,hv,X⟩:=hs6;exact X.cells.c13);clear hs6 cs6 fq6;obtain ⟨A6,cap6,C6⟩:=HCS6.out;have e10:w6.cell? ⟨w1.heap.size+1,10,none⟩=some (.int .i64 D.c.pc):=C6.cells.c10;have f10:w6.frozen? ⟨w1.heap.size+1,10,none⟩=false:=C6.free 10;have HC6:Hid (CalAt w0 w6 ⟨w1.heap.size+1,w1.heap.size,m.locs.toNat,P,CC,K,pp,cc,kk⟩ D.c A6 cap6):=C6;clear C6)
         go_roundw
         case rel=>exact ⟨k',D.h,{ D.c with pc:=D.nx },⟨HS6.out.cf (HC6.out.cf HK.out 10 _),⟨_,_,HC6.out.setPc _⟩,FQ6.out.trans (HC6.out.fq _ 10 _),KD.out.gh,by rw [KD.out.le.calls];exact HC2.out,fun _=>⟨HTD.out,GCD.out.pc _,HNXT.out⟩,KD.out.m.trans HME2.out,KD.out.le.file.trans HF2.out.1,KD.out.le.input.trans HF2.out.2.1,KD.out.le.fuel.trans HF2.out.2.2,by have:=KD.out.le.steps;have:=KD.out.le.fuel;have:=HLF.out;omega,Nat.le_of_lt HKN.out,HLE.out⟩⟩
         case measure =>
          have hm1:=left_is (HS6.out.cf (HC6.out.cf HK.out 10 (.int .i64 D.nx))) h0.fuel
          have key:∀S:Int,h2.sh.steps≤S→(h0.fuel-S).toNat<leftAt p h0.fuel wr:=fun S hS=>by have hm2:=HMS.out;rw [hm2.1];omega
          rw [hm1]
          exact key _ KD.out.le.steps
       ·have HLE:Hid (LP=(D.h.leave,va0)):=by
         show LP=_
         rw [HLN.out];unfold nextP;rw [if_pos hov]
        have hcb:0≤D.h.calls∧D.h.calls≤20:=KD.out.gh.calls
        go_wp2_with (go_at_call 58;refine (DA.out _ HS5.out ⟨AA,ca2,HC5.out⟩).mono ?_;rintro e w6 ⟨rfl,hs6,cs6,fq6⟩;have FQ6:Hid (Fq w0.heap.size g.T ⟨w1.heap.size+1,w1.heap.size,m.locs.toNat,P,CC,K,pp,cc,kk⟩ WA w6):=FQ5.out.trans fq6;have HS6:Hid (Hs w0 g w6 p D.h):=hs6;have HCS6:Hid (Cs w0 w6 ⟨w1.heap.size+1,w1.heap.size,m.locs.toNat,P,CC,K,pp,cc,kk⟩ D.c):=cs6;have o12:w6.cell? ⟨p,12,none⟩=some (.bool true):=(by obtain ⟨vo,vx,hv,X⟩:=hs6;rw [X.cells.c12,hov]);have o13:w6.cell? ⟨p,13,none⟩=some (.int .i64 D.h.thrown):=(by obtain ⟨vo,vx,hv,X⟩:=hs6;exact X.cells.c13);clear hs6 cs6 fq6;have hs7:=HS6.out;obtain ⟨vo,vx,hv,HX⟩:=hs7;have c4:=HX.cells.c4;have f4:=HX.free 4;have HXA:Hid (HpAt w0 g w6 p D.h vo vx hv):=HX;clear HX;have bx:=HBR.out.fq HK.out FQ6.out n3 n4;have r0:=bx.c0;have r1:=bx.c1;have r2:=bx.fr 0;have r3:=bx.fr 1;have HBX:Hid (VaBox w6 (w.heap.size+1) va0):=bx;clear bx)
        (try simp only [Exit.inBlock,Exit.then])
        refine bodyPost_ret (results_cell_row rfl _ _ (w.heap.size+1) _ _ _ _ rfl ((HBX.out.far hpn).set va0).blk Tryz.underlying62 rfl info_va) rfl ?_
        rw [HLE.out]
        exact ⟨rfl,⟨vo,vx,hv,(HXA.out.leave HK.out).cf ((HBX.out.far hpn).cf HK.out hbs1 _ _)⟩,((((Fq.fr HFR.out FQ6.out hqw hlw).trans (HXA.out.frSet 4 _)).new hle1 hbs1 _).new hle1 hbs1 _)⟩
     ·have HLE:Hid (LP=((h2.fin 6).leave,va0)):=by
       show LP=_
       have e1:h2.mustB (decide (c1.pc<c1.m.code.length))=false:=by rw [must_is h2 H2O.out,HME2.out];exact decide_eq_false hpc
       have e2:h2.must (decide (c1.pc<c1.m.code.length))=h2.fin 6:=by rw [HME2.out,decide_eq_false hpc];rfl
       rw [HLS.out]
       unfold stepP
       rw [if_pos e1,e2]
      have hcb:0≤(h2.fin 6).calls∧(h2.fin 6).calls≤20:=by rw [(fin_le h2 6).calls];exact G2.out.calls
      have hd:decide (c1.pc<m.code.length)=false:=decide_eq_false hpc
      have HMF:Hid (h2.mustB false=false):=rfl
      have HMM:Hid (h2.must false=h2.fin 6):=rfl
      go_wp2_with (go_at_call 54;refine SA.out.mono ?_;rintro e w2 ⟨rfl,hs2,f2⟩;have FQ2:Hid (Fq w0.heap.size g.T ⟨w1.heap.size+1,w1.heap.size,m.locs.toNat,P,CC,K,pp,cc,kk⟩ WA w2):=HFQ.out.trans f2.fq;have HS2:Hid (Hs w0 g w2 p h2):=hs2;obtain ⟨AA,ca2,CC2⟩:=HCR.out.fr HK.out f2;have d10:w2.cell? ⟨w1.heap.size+1,10,none⟩=some (.int .i64 c1.pc):=CC2.cells.c10;have m6:=(HMR.out.fq HK.out FQ2.out n5 n6).cells.c6;clear CC2)
      go_region_held3 (fun w'=>w'.cell? ⟨w1.heap.size+1,10,none⟩=some (.int .i64 c1.pc)∧w'.cell? ⟨w.heap.size,6,none⟩=some (.slice CC m.code.length cc))
       (go_keep)
       (first
        | (go_at_call 55;refine (must_any w0 g HK.out p h2 false _ (by first|exact HS2.out.cf (Cf.drew (Cf.refl _ _ _))|exact HS2.out)).mono ?_;rintro e w3 ⟨he,hs3,f3⟩;rw [HMF.out] at he;subst he;rw [HMM.out] at hs3;have F3:Hid (Fr w0.heap.size g.T wr w3):=Fr.trans (Fr.trans f2 (Fr.drew (Fr.refl _ _ _))) f3;have FQ3:Hid (Fq w0.heap.size g.T ⟨w1.heap.size+1,w1.heap.size,m.locs.toNat,P,CC,K,pp,cc,kk⟩ WA w3):=HFQ.out.trans F3.out.fq;obtain ⟨AA3,ca3,CC3⟩:=HCR.out.fr HK.out F3.out;have d10':w3.cell? ⟨w1.heap.size+1,10,none⟩=some (.int .i64 c1.pc):=CC3.cells.c10;have m6':=(HMR.out.fq HK.out FQ3.out n5 n6).cells.c6;clear CC3;obtain ⟨vo,vx,hv,HX⟩:=hs3;have c4:=HX.cells.c4;have f4:=HX.free 4;have HXA:Hid (HpAt w0 g w3 p (h2.fin 6) vo vx hv):=HX;clear HX;have bx:=HBR.out.fq HK.out FQ3.out n3 n4;have r0:=bx.c0;have r1:=bx.c1;have r2:=bx.fr 0;have r3:=bx.fr 1;have HBX:Hid (VaBox w3 (w.heap.size+1) va0):=bx;clear bx))
      go_wp2
      (try simp only [Exit.inBlock,Exit.then])
      refine bodyPost_ret (results_cell_row rfl _ _ (w.heap.size+1) _ _ _ _ rfl ((HBX.out.far hpn).set va0).blk Tryz.underlying62 rfl info_va) rfl ?_
      rw [HLE.out]
      exact ⟨rfl,⟨vo,vx,hv,(HXA.out.leave HK.out).cf ((HBX.out.far hpn).cf HK.out hbs1 _ _)⟩,((((Fq.fr HFR.out FQ3.out hqw hlw).trans (HXA.out.frSet 4 _)).new hle1 hbs1 _).new hle1 hbs1 _)⟩
end Go.Proofs.YtgiiapenmjollaaGreat
