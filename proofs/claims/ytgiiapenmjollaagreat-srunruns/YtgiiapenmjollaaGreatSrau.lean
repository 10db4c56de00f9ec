import Derived.Test.YtgiiapenmjollaaGreatSrag
import Derived.Test.YtgiiapenmjollaaGreatSraq
import Derived.Deep.RegionLaw
namespace Go.Proofs.YtgiiapenmjollaaGreat
set_option linter.all false
set_option maxHeartbeats 40000000
set_option maxRecDepth 100000
open Go.RowKit
open Go.Value (int)
open Go.IntKind (i64)
variable {c c':aH} {h:Hp} {nx:Int} {qs:List Nat} {l:List Va} {a:Mc} {g:Mg} {X:Nat->Prop} {v:Va} {w w' w0 wx:World}
theorem FY:(Tryz.prog.info? 100).map (fun i=>(i.zero,i.size,i.bytes))=some (some (.agg #[int i64 0,int i64 0]),2,16):=by kernel_rfl
theorem l4.push {s:Nat} {w2:World} {vc vo vx vs v':Value} (H:l4 s X wx w0 g w h qs a c vc vo vx vs l) (hg:w.grownBy w2 vs.ownBlock) (hv:1<=v.kind/\v.kind<=3) (ho:w2.ownsRow w0.heap.size 100 2 v' (c.stk.length+1) (aL (c.stk.map im)++aL [im v])) (hat:v'.ownBlock=vs.ownBlock∨∀b,v'.ownBlock=some b->w.heap.size<=b) :
  l4 s X wx w0 g (w2.setCell ⟨a.q,12,none⟩ v') h qs a (c.put v) vc vo vx v' l:=by
 have R:=H.rh
 have C:=H.ca
 have hrow:∀b,vs.ownBlock=some b->w0.heap.size<=b:=fun b e=>(C.stk.lt b e).1
 obtain ⟨fq,fl,fs⟩:=C.far R
 have n1:vs.ownBlock≠some a.q:=bc C.stk C.blk (by decide)
 have qN:=au hg C.blk n1
 have yf:=au hg C.loc C.apart
 have gE:=cQ (w:=w2) a.q 12 v'
 have eR:a.q≠a.lb:=dN C.blk C.loc (by decide)
 have e1:(c.put v).stk.length=c.stk.length+1:=by simp [aH.put]
 have e2:aL ((c.put v).stk.map im)=aL (c.stk.map im)++aL [im v]:=by rw [<-fe];simp [aH.put]
 have hap:∀b,v'.ownBlock=some b->b≠a.lb/\¬X b:=fun b e=>by
  rcases hat with q|q
  ·rw [q] at e
   exact ⟨fun z=>C.apart (by rw [<-z];exact e),fun hx=>(H.farc b hx).s e⟩
  ·have h1:=q b e
   have h2:=af C.loc
   refine ⟨by omega,fun hx=>?_⟩
   have:=(H.kept.blk b hx).1;have:=H.kept.size;omega
 refine ⟨(R.kept hg (fun b e=>⟨hrow b e,fs b e⟩)).kept gE (fun b e=>by cases e;exact ⟨C.own,fq⟩),⟨C.own,C.ownl,?_,?_,C.rel,?_,fun e=>(hap _ e).1 rfl,C.me,C.short,?_⟩,H.farr,fun b hx=>⟨(H.farc b hx).q,(H.farc b hx).l,fun e=>(hap b e).2 hx⟩,?_⟩
 ·rw [ax qN];rfl
 ·exact au gE yf (fun e=>eR (Option.some.inj e))
 ·rw [e1,e2]
  exact ho.kept gE (Or.inr (bc ho qN (by decide)))
 ·intro u hu
  simp only [aH.put,List.mem_append,List.mem_singleton] at hu
  rcases hu with hu|rfl
  ·exact C.kinds u hu
  ·exact hv
 ·exact (H.kept.kept hg (fun b e hx=>(H.farc b hx).s e)).kept gE (fun b e hx=>by cases e;exact (H.farc _ hx).q rfl)
theorem J3 (h:1<=v.kind/\v.kind<=3):jq v.kind=if v.kind=2 then 2 else 1:=by
 unfold jq
 split<;>(try split)<;>(try split)<;>omega
theorem FZ (l:List Va):aQ l<=2*l.length:=by
 induction l with
 | nil=>simp [aQ]
 | cons t l ih=>simp only [aQ,List.length_cons];split<;>omega
theorem yZ (l:List Va) (k:Nat) (h:k<l.length):aQ (l.take (k+1))=aQ (l.take k)+(if (nth ag l k).kind=2 then 2 else 1):=by
 induction l generalizing k with
 | nil=>simp at h
 | cons t l ih =>
  cases k with
  | zero=>simp [aQ,nth]
  | succ k =>
   have:=ih k (by simpa using h)
   have e:nth ag (t::l) (k+1)=nth ag l k:=by simp [nth]
   rw [e,List.take_succ_cons,List.take_succ_cons,aQ,aQ,this];omega
theorem Fu {gb cp:Nat} (H:CA w0 g w a (c.put v) l (.slice (some ⟨gb,0,none⟩) (c.stk.length+1) cp)) :
  ∀k,k<c.stk.length+1->w.cell? ⟨gb,k*2,none⟩=some (int i64 (nth ag (c.stk++[v]) k).kind)/\w.cell? ⟨gb,k*2+1,none⟩=some (int i64 (im (nth ag (c.stk++[v]) k)).n)/\1<=(nth ag (c.stk++[v]) k).kind/\(nth ag (c.stk++[v]) k).kind<=3:=by
 intro k hk
 have hl:(c.stk++[v]).length=c.stk.length+1:=by simp
 have Cn:k<(c.stk++[v]).length:=by omega
 have hm:(nth ag (c.stk++[v]) k)∈(c.put v).stk:=bJ Cn
 have hkd:=H.kinds _ hm
 rcases H.stk.2 with ⟨h0,-⟩|⟨g',cap',cur,hv,h2,h3,h4,h5,h6,h7⟩
 ·simp at h0
 ·simp only [Value.slice.injEq,Option.some.injEq,Addr.mk.injEq] at hv
  obtain ⟨⟨rfl,-⟩,-,rfl⟩:=hv
  have e1:(c.put v).stk=c.stk++[v]:=rfl
  have hx:=fL ((c.stk++[v]).map im) k (by simpa using hk)
  have e2:nth ag ((c.stk++[v]).map im) k=im (nth ag (c.stk++[v]) k):=by
   rw [bU (l:=(c.stk++[v]).map im) (by rw [List.length_map];exact Cn),bU Cn,List.getElem_map]
  rw [e2,<-e1,<-h7,List.getElem?_take,List.getElem?_take,e1,hl,if_pos (by omega),if_pos (by omega)] at hx
  refine ⟨?_,?_,hkd⟩
  ·rw [aa h3]
   have Bw:cur[k*2]?=some (int i64 (im (nth ag (c.stk++[v]) k)).kind):=by simpa using hx.1
   exact Bw
  ·rw [aa h3];simpa using hx.2
theorem cM (s:Nat) (X:Nat->Prop) (wx w0:World) (g:Mg) (h:Hp) (qs:List Nat) (a:Mc) (c:aH) (v:Va) (w:World) (H:RX s X wx w0 g w h qs a c) (hv:1<=v.kind/\v.kind<=3) (hs:c.stk.length<=1000) :
  Calls Tryz.prog 95 #[.pointer (some ⟨a.q,0,none⟩),cn (im v)] w fun e w'=>e=(if (aQ (c.stk++[v]):Int)<=c.m.stack then .returned (.tuple #[]) else aV 6 0 0)/\RX s X wx w0 g w' h qs a (c.put v):=by
 obtain ⟨i0,th,sj,tj,tl⟩:=info_parts FY
 have cI:=H.size
 obtain ⟨vc,vo,vx,vs,l,H⟩:=H
 have HV:=ab hv
 obtain ⟨A,cap,Qw,h1,h2⟩:=iq H.ca.stk
 subst Qw
 have HH:=ab (H.bl ((Bl.refl w).alloc (dL (im v))))
 have HL:=ab (aD w #[int i64 (im v).kind,int i64 (im v).n] 100)
 have x0:=aK HL.out
 have x1:=aI HL.out
 have tq:=H.ca.stk
 have c12:=HH.out.ca.cells.c12
 have fz:=HH.out.ca.free
 have hq:=af H.ca.blk
 have HO:=ab HH.out.ca.stk
 have HP:=ab (HH.out.ca.blk)
 have Oq:Hid ((Value.slice A c.stk.length cap).ownBlock≠some w.heap.size):=fun e=>by have:=lx tq e;omega
 have Ot:=ab (bc HO.out HP.out (by decide))
 clear H tq hv
 go_enter Tryz.func95,Tryz.ntmps95
 go_wp2
 go_region_law ((refine step_append_lies _ (by rfl) _ _ _ (by rfl) w0.heap.size 100 i0 _ 2 16 Tryz.underlying81 th sj tj tl rfl (by omega) (.slice A c.stk.length cap) c.stk.length (aL (c.stk.map im)) (by rfl) ((HO.out.alloc _).drew) ⟨w.heap.size+1,0,none⟩ 1 1 [int i64 (im v).kind,int i64 (im v).n] (by rfl) (by rfl) (World.news_of_block (cs:=#[int i64 (im v).kind,int i64 (im v).n]) (t:=100) (fr:=(0,0)) (by rw [<-El w (dL (im v))];exact aD _ _ _)) (by simp [Value.oneCell']) (by omega) (by unfold maxLen;omega) (by omega) (by simp;omega) _ rfl ?_;intro gb cp w1 fY bL hat tr;have mK:=au bL ((Below.heap_alloc _ _ _ (af HP.out)).trans HP.out) Ot.out;have dB:=au bL ((Below.heap_alloc _ _ _ (af HL.out)).trans HL.out) Oq.out;have Xi:w1.cell? ⟨a.q,12,none⟩=some (.slice A c.stk.length cap):=(aa mK).trans rfl;have z12:=ay mK 12;have y0:=aK dB;have y1:=aI dB;have eR:=af mK;replace fY:=ab fY;replace bL:=ab bL;replace hat:=ab hat;clear dB mK))
 all_goals
  obtain ⟨W,hW⟩:∃W,W=w1.setCell ⟨a.q,12,none⟩ (.slice (some ⟨gb,0,none⟩) (c.stk.length+1) cp):=⟨_,rfl⟩
  have HA:l4 s X wx w0 g W h qs a (c.put v) vc vo vx (.slice (some ⟨gb,0,none⟩) (c.stk.length+1) cp) l:=by
   rw [hW]
   exact l4.push (HH.out.bl (((Bl.refl _).alloc _).drew)) bL.out HV.out fY.out (hat.out.elim (fun e=>Or.inl e.symm) (fun e=>Or.inr fun b hb=>Nat.le_of_eq (e.symm.trans (by simpa [Value.ownBlock] using hb))))
  rw [<-hW]
  clear hW
  have UB:=HA.ca.cells.c12
  have k5:=HA.ca.cells.c5
  have VR:Hid (∀k,k<c.stk.length+1->W.cell? ⟨gb,k*2,none⟩=some (int i64 (nth ag (c.stk++[v]) k).kind)/\W.cell? ⟨gb,k*2+1,none⟩=some (int i64 (im (nth ag (c.stk++[v]) k)).n)/\1<=(nth ag (c.stk++[v]) k).kind/\(nth ag (c.stk++[v]) k).kind<=3):=Fu HA.ca
  replace HA:=ab HA
  clear fY bL hat Xi z12 y0 y1 eR tr w1
  have hsz:∀k,aQ ((c.stk++[v]).take k)<=2*k:=fun k=>by
   have:=FZ ((c.stk++[v]).take k)
   have:=List.length_take_le k (c.stk++[v])
   omega
  have SE:=ab hsz
  clear hsz
  obtain ⟨N,hN⟩:∃N,c.stk.length+1=N:=⟨_,rfl⟩
  have YK:N<=1001:=by omega
  have vp:Hid ((c.stk++[v]).length=N):=by show (c.stk++[v]).length=N;rw [<-hN];simp
  rw [hN] at UB VR HA ⊢
  clear hN
  go_wp2
  go_loopw [4,22] (fun u i wr=>∃k:Nat,k<=N/\i=int i64 k/\u=int i64 ((aQ ((c.stk++[v]).take k):Nat):Int)/\Bl W wr) (fun _ i _=>N-(intOf i).toNat)
  case atStart=>exact ⟨0,Nat.zero_le _,rfl,by simp [aQ],Bl.refl _⟩
  case round =>
   obtain ⟨k,hk,rfl,rfl,hbl⟩:=hrel
   have h2:=SE.out k
   by_cases hlt:k<N
   ·obtain ⟨r0,r1,r2⟩:=VR.out k hlt
    replace r0:=hbl.cell r0
    replace r1:=hbl.cell r1
    have Qc:=bC r0
    have Po:=ab (yZ (c.stk++[v]) k (by rw [vp.out];exact hlt))
    have HW:=ab (J3 r2)
    have zB:(0:Int)<=(k:Int):=by omega
    have Mj:(k:Int)<(N:Int):=by omega
    generalize nth ag (c.stk++[v]) k=u at *
    obtain ⟨z,hz⟩:∃z,aQ ((c.stk++[v]).take k)=z:=⟨_,rfl⟩
    rw [hz] at Po h2
    have o5:=ab hbl
    have HZ:=ab hz
    rw [hz]
    clear r2 hz hbl
    go_wp2_with (go_at_call 85;refine (mc _ _).mono ?_;rintro e w2 ⟨he,hw⟩;rw [HW.out] at he;subst he;rw [hw];clear hw w2)
    by_cases UC:u.kind=2
    ·rw [if_pos UC] at Po ⊢
     go_wp2
     go_roundw
     case rel=>exact ⟨k+1,by omega,by go_num,by rw [Po.out];go_num,o5.out.alloc _⟩
     case measure=>simp [intOf];omega
    ·rw [if_neg UC] at Po ⊢
     go_wp2
     go_roundw
     case rel=>exact ⟨k+1,by omega,by go_num,by rw [Po.out];go_num,o5.out.alloc _⟩
     case measure=>simp [intOf];omega
   ·have J4:k=N:=by omega
    subst J4
    have zY:(c.stk++[v]).take k=c.stk++[v]:=List.take_of_length_le (Nat.le_of_eq vp.out)
    rw [zY] at h2 ⊢
    have Mz:=HA.out.bl hbl
    have m5:wr.cell? ⟨a.q,5,none⟩=some (int i64 c.m.stack):=Mz.ca.cells.c5
    have Mz:=ab Mz
    clear k5 UB
    by_cases nE:(aQ (c.stk++[v]):Int)<=c.m.stack
    ·have Xj:=ab nE
     have hd:decide (c.m.stack<(aQ (c.stk++[v]):Int))=false:=by simpa using nE
     go_wp2
     go_end0
     exact ⟨rfl,_,_,_,_,_,Mz.out⟩
    ·have Xj:=ab nE
     have hd:decide (c.m.stack<(aQ (c.stk++[v]):Int))=true:=by simpa using nE
     go_wp2_with (go_at_call 86;refine (jd _).mono ?_;rintro e w1 ⟨rfl,hw⟩;rw [hw];clear hw w1)
     exact ⟨rfl,rfl,_,_,_,_,_,Mz.out⟩
def js (d:jE):Ending:=if d.h.over=true then aV d.h.sh.fin 0 0 else if 0<=d.h.thrown then wy d.h.thrown else .returned (.tuple #[])
structure bT (X:Nat->Prop) (wx w0:World) (g:Mg) (qs:List Nat) (a:Mc) (c:aH) (d:jE) (e:Ending) (w':World):Prop where
 how:e=js d
 stop:d.h.stops=true->RS 0 X wx w0 g w' d.h qs a c
 go:d.h.stops=false->RX 0 X wx w0 g w' d.h qs a d.c
theorem RH.less {vc vo vx:Value} (H:RH 1 w0 g w h qs vc vo vx):RH 0 w0 g w h qs vc vo vx:=by
 obtain ⟨n,D,F⟩:=H.fld
 exact ⟨H.ownr,H.ownh,H.ownm,H.bl,H.run,H.hp,H.out,H.obs,H.calls,n,D,F.own,by have:=F.few;omega,F.hit,F.miss,F.new,F.ks,F.kd⟩
section
variable {X:Nat->Prop} {wx w0 w:World} {g:Mg} {h:Hp} {qs:List Nat} {a:Mc} {c:aH}
theorem RX.less (H:RX 1 X wx w0 g w h qs a c):RX 0 X wx w0 g w h qs a c:=by
 obtain ⟨vc,vo,vx,vs,l,H⟩:=H
 exact ⟨vc,vo,vx,vs,l,H.rh.less,H.ca,H.farr,H.farc,H.kept⟩
theorem RS.less (H:RS 1 X wx w0 g w h qs a c):RS 0 X wx w0 g w h qs a c:=by
 obtain ⟨d,e1,e2,H⟩:=H
 exact ⟨d,e1,e2,H.less⟩
end
theorem kq (ho:h.over=false) (k:Int):(h.fin k).over=true/\(h.fin k).sh.fin=k:=by
 unfold Hp.fin;rw [if_neg (by rw [ho];decide)];exact ⟨rfl,rfl⟩
section
variable {X:Nat->Prop} {wx w0 w':World} {g:Mg} {h:Hp}
theorem cY {h':Hp} {k:Int} {s:Nat} (ho:h.over=false) (e:h'=h.fin k) (H:RS 0 X wx w0 g w' h qs a c):bT X wx w0 g qs a c ⟨h',c',nx⟩ (aV k 0 0) w':=by
 subst e
 obtain ⟨h1,h2⟩:=kq ho k
 refine ⟨?_,fun _=>H.eqv (zN h k),fun q=>?_⟩
 ·unfold js;dsimp only;rw [if_pos h1,h2]
 ·simp [Hp.stops,h1] at q
theorem eO {c1:aH} {e:Ending} (hs:h.stops=false) (hm:c1.m=c.m) (hp:c1.pc=c.pc/\c1.locs=c.locs) (he:e=if (aQ (c1.stk++[v]):Int)<=c1.m.stack then .returned (.tuple #[]) else aV 6 0 0) (H:RX 0 X wx w0 g w' h qs a (c1.put v)):bT X wx w0 g qs a c ⟨h.putH c1 v,c1.put v,nx⟩ e w':=by
 have vl:=hs
 unfold Hp.stops at vl
 rw [Bool.or_eq_false_iff] at vl
 have ht:¬0<=h.thrown:=by simpa using vl.2
 by_cases hr:(aQ (c1.stk++[v]):Int)<=c1.m.stack
 ·have e1:h.putH c1 v=h:=by
   unfold Hp.putH Hp.must
   rw [if_neg (by rw [hs];decide),if_pos (by simpa using hr)]
  rw [e1]
  rw [if_pos hr] at he
  refine ⟨?_,fun q=>?_,fun _=>H⟩
  ·unfold js;dsimp only;rw [if_neg (by rw [vl.1];decide),if_neg ht];exact he
  ·rw [hs] at q;exact absurd q (by decide)
 ·have e1:h.putH c1 v=h.fin 6:=by
   unfold Hp.putH Hp.must
   rw [if_neg (by rw [hs];decide),if_neg (by simpa using hr)]
  rw [if_neg hr] at he
  rw [he]
  exact cY (s:=0) vl.1 e1 ⟨c1.put v,hm,hp,H⟩
end
theorem qW (k:Int) (ho:h.over=false) (hf:h.full=true):h.raise k=h.fin 4:=by
 unfold Hp.raise Hp.new
 rw [if_pos hf,if_pos (kq ho 4).1]
theorem sQ (k:Int) (ho:h.over=false) (hf:h.full=false):h.raise k={ h with objs:=h.objs++[⟨k,dA h.file.classes k.toNat⟩],thrown:=(h.objs.length:Nat) }:=by
 have hn:h.new k={ h with objs:=h.objs++[⟨k,dA h.file.classes k.toNat⟩] }:=by unfold Hp.new;rw [if_neg (by rw [hf];decide)]
 have hv:h.newV=⟨3,(h.objs.length:Nat)⟩:=by unfold Hp.newV;rw [if_neg (by rw [hf];decide)]
 unfold Hp.raise
 rw [hn,hv,if_neg (by simp [ho])]
theorem jb {h':Hp} {k:Int} (hs:h.stops=false) (e:h'=h.raise k) (H:RS 0 X wx w0 g w' (h.raise k) qs a c):bT X wx w0 g qs a c ⟨h',c',nx⟩ (bM h) w':=by
 subst e
 unfold Hp.stops at hs
 rw [Bool.or_eq_false_iff] at hs
 cases hf:h.full with
 | true =>
  have e1:=qW k hs.1 hf
  have h1:=kq hs.1 4
  refine ⟨?_,fun _=>H,fun q=>?_⟩
  ·unfold js bM
   dsimp only
   rw [e1,if_pos hf,if_pos h1.1,h1.2]
  ·dsimp only at q;rw [e1] at q;simp [Hp.stops,h1.1] at q
 | false =>
  have e1:=sQ k hs.1 hf
  refine ⟨?_,fun _=>H,fun q=>?_⟩
  ·unfold js bM
   dsimp only
   rw [e1,if_neg (by rw [hf];decide)]
   dsimp only
   rw [if_neg (by rw [hs.1];decide),if_pos (by omega)]
  ·dsimp only at q;rw [e1] at q
   simp [Hp.stops] at q
section
variable {c:aH}
theorem gB:c.stk=[]∨∃l v,c.stk=l++[v]:=by
 rcases List.eq_nil_or_concat c.stk with h|⟨l,v,h⟩
 ·exact Or.inl h
 ·exact Or.inr ⟨l,v,by rw [h,List.concat_eq_append]⟩
theorem fE (h:c.stk=[]):c.has 1=false:=by unfold aH.has;rw [h];rfl
theorem fF (h:c.stk=l++[v]):c.has 1=true/\nth ag (c.top 1) 0=v/\c.cut 1={ c with stk:=l }:=by
 have hl:c.stk.length=l.length+1:=by rw [h];simp
 refine ⟨by unfold aH.has;rw [hl];simp,?_,?_⟩
 ·unfold aH.top
  rw [if_pos (by omega),hl,h]
  simp [nth]
 ·unfold aH.cut
  rw [if_pos (by omega),hl,h]
  simp
theorem pJ {u:Va} (h:c.stk=l++[u,v]):c.has 2=true/\nth ag (c.top 2) 0=u/\nth ag (c.top 2) 1=v/\c.cut 2={ c with stk:=l }:=by
 have hl:c.stk.length=l.length+2:=by rw [h];simp
 refine ⟨by unfold aH.has;rw [hl];simp,?_,?_,?_⟩
 ·unfold aH.top
  rw [if_pos (by omega),hl,h]
  simp [nth]
 ·unfold aH.top
  rw [if_pos (by omega),hl,h]
  simp [nth]
 ·unfold aH.cut
  rw [if_pos (by omega),hl,h]
  simp
theorem mR (h:∀l u v,c.stk≠l++[u,v]):c.has 2=false:=by
 unfold aH.has
 rw [decide_eq_false_iff_not]
 intro hl
 rcases List.eq_nil_or_concat c.stk with h1|⟨l,v,h1⟩
 ·rw [h1] at hl;simp at hl
 ·rw [List.concat_eq_append] at h1
  rcases List.eq_nil_or_concat l with h2|⟨l',u,h2⟩
  ·rw [h1,h2] at hl;simp at hl
  ·rw [List.concat_eq_append] at h2
   exact h l' u v (by rw [h1,h2];simp)
end
section
open Go.Maps (Keyed has)
theorem lN {i:In} (hs:h.stops=false) (hop:i.op=1∨i.op=2∨i.op=3):aM h c i=⟨h.putH c (aG h ag ag i),c.put (aG h ag ag i),c.pc+1⟩:=by
 have ho:h.over=false:=by unfold Hp.stops at hs;rw [Bool.or_eq_false_iff] at hs;exact hs.1
 have e1:aJ i.op=0:=by unfold aJ;rw [if_neg (by omega),if_neg (by omega)]
 have e2:c.cut 0=c:=by unfold aH.cut;simp
 have e3:h.must (c.has 0)=h:=by unfold Hp.must aH.has;simp
 have e4:∀x y,givesH h x y i=h:=by
  intro x y
  unfold givesH
  rw [if_neg (by rw [ho];decide)]
  rw [if_neg (by omega),if_neg (by omega),if_neg (by omega),if_neg (by omega),if_neg (by omega),if_neg (by omega),if_neg (by omega),if_neg (by omega),if_neg (by omega),if_pos hop]
 have e5:∀x y,aG h x y i=aG h ag ag i:=by
  intro x y
  unfold aG
  rcases hop with q|q|q<;>simp [q,ho]
 unfold aM
 rw [if_neg (by omega),if_neg (by omega),if_neg (by omega),if_neg (by omega),if_neg (by omega),if_neg (by omega),if_neg (by omega),if_neg (by omega),if_neg (by omega),if_neg (by omega)]
 unfold b8
 dsimp only
 rw [e1,e3,e4,e2,if_neg (by rw [hs];decide),e5]
section
variable (X:Nat->Prop) (wx w0:World) (g:Mg) (h:Hp) (qs:List Nat) (a:Mc) (c:aH) (ia ib ic ii:Int) (args:List Int) (Q:Option Addr) (nl q:Nat) (w:World)
theorem F4 (H:RX 1 X wx w0 g w h qs a c) (hs:h.stops=false) (hl:c.stk.length<=1000) :
  Calls Tryz.prog 94 #[.pointer (some ⟨a.q,0,none⟩),.agg #[int i64 1,int i64 ia,int i64 ib,int i64 ic,int i64 ii,.slice Q nl q]] w fun e w'=>bT X wx w0 g qs a c (aM h c ⟨1,ia,ib,ic,ii,args⟩) e w':=by
 have hv:aG h ag ag ⟨1,ia,ib,ic,ii,args⟩=⟨1,ii⟩:=by
  have ho:h.over=false:=by unfold Hp.stops at hs;rw [Bool.or_eq_false_iff] at hs;exact hs.1
  unfold aG
  rw [if_neg (by rw [ho];decide)]
  simp
 rw [lN hs (by simp),hv]
 obtain ⟨E,hE⟩:∃E,(if (aQ ((c).stk++[(⟨1,ii⟩:Va)]):Int)<=(c).m.stack then Ending.returned (.tuple #[]) else aV 6 0 0)=E:=⟨_,rfl⟩
 have HP:Hid (∀X wx w,RX 1 X wx w0 g w h qs a (c)->Calls Tryz.prog 95 #[.pointer (some ⟨a.q,0,none⟩),cn (im (⟨1,ii⟩:Va))] w fun e w2=>e=E/\RX 1 X wx w0 g w2 h qs a ((c).put (⟨1,ii⟩:Va))):=fun X wx w H=>hE▸cM 1 X wx w0 g h qs a (c) (⟨1,ii⟩:Va) w H (show (1:Int)<=1/\(1:Int)<=3 from by decide) (hl)
 have HE:Hid (∀w',RX 1 X wx w0 g w' h qs a ((c).put (⟨1,ii⟩:Va))->bT X wx w0 g qs a c ⟨(h).putH (c) (⟨1,ii⟩:Va),(c).put (⟨1,ii⟩:Va),c.pc+1⟩ E w'):=fun w' H=>eO hs rfl ⟨rfl,rfl⟩ hE.symm H.less
 have nT:E=.returned (.tuple #[])∨E=aV 6 0 0:=by rw [<-hE];split;exact Or.inl rfl;exact Or.inr rfl
 clear hE
 have xf:Hid (im (⟨1,ii⟩:Va)=⟨1,ii⟩):=by rfl
 rw [xf.out] at HP
 have HH:=ab H
 have HB:Hid (Bl w (w.alloc (.cells #[int i64 1,int i64 ia,int i64 ib,int i64 ic,int i64 ii,.slice Q nl q] 55))):=(Bl.refl w).alloc _
 clear H hv hs
 rcases nT with rfl|rfl
 ·go_enter Tryz.func94,Tryz.ntmps94
  go_wp2_with (first
   | (go_at_call 101;refine (jl ii _).mono ?_;rintro e w1 ⟨rfl,b1⟩;replace b1:=ab b1)
   | (go_at_call 95;refine (HH.out.y.useY (HB.out.trans b1.out) HP.out).mono ?_;rintro e w2 ⟨rfl,H2,K2⟩;replace H2:=ab H2;clear K2))
  go_end0
  exact HE.out _ H2.out.x
 ·go_enter Tryz.func94,Tryz.ntmps94
  go_wp2_with (first
   | (go_at_call 101;refine (jl ii _).mono ?_;rintro e w1 ⟨rfl,b1⟩;replace b1:=ab b1)
   | (go_at_call 95;refine (HH.out.y.useY (HB.out.trans b1.out) HP.out).mono ?_;rintro e w2 ⟨rfl,H2,K2⟩;replace H2:=ab H2;clear K2))
  exact ⟨rfl,HE.out _ H2.out.x⟩
theorem F6 (H:RX 1 X wx w0 g w h qs a c) (hs:h.stops=false) (hl:c.stk.length<=1000) :
  Calls Tryz.prog 94 #[.pointer (some ⟨a.q,0,none⟩),.agg #[int i64 2,int i64 ia,int i64 ib,int i64 ic,int i64 ii,.slice Q nl q]] w fun e w'=>bT X wx w0 g qs a c (aM h c ⟨2,ia,ib,ic,ii,args⟩) e w':=by
 have hv:aG h ag ag ⟨2,ia,ib,ic,ii,args⟩=⟨2,ii⟩:=by
  have ho:h.over=false:=by unfold Hp.stops at hs;rw [Bool.or_eq_false_iff] at hs;exact hs.1
  unfold aG
  rw [if_neg (by rw [ho];decide)]
  simp
 rw [lN hs (by simp),hv]
 obtain ⟨E,hE⟩:∃E,(if (aQ ((c).stk++[(⟨2,ii⟩:Va)]):Int)<=(c).m.stack then Ending.returned (.tuple #[]) else aV 6 0 0)=E:=⟨_,rfl⟩
 have HP:Hid (∀X wx w,RX 1 X wx w0 g w h qs a (c)->Calls Tryz.prog 95 #[.pointer (some ⟨a.q,0,none⟩),cn (im (⟨2,ii⟩:Va))] w fun e w2=>e=E/\RX 1 X wx w0 g w2 h qs a ((c).put (⟨2,ii⟩:Va))):=fun X wx w H=>hE▸cM 1 X wx w0 g h qs a (c) (⟨2,ii⟩:Va) w H (show (1:Int)<=2/\(2:Int)<=3 from by decide) (hl)
 have HE:Hid (∀w',RX 1 X wx w0 g w' h qs a ((c).put (⟨2,ii⟩:Va))->bT X wx w0 g qs a c ⟨(h).putH (c) (⟨2,ii⟩:Va),(c).put (⟨2,ii⟩:Va),c.pc+1⟩ E w'):=fun w' H=>eO hs rfl ⟨rfl,rfl⟩ hE.symm H.less
 have nT:E=.returned (.tuple #[])∨E=aV 6 0 0:=by rw [<-hE];split;exact Or.inl rfl;exact Or.inr rfl
 clear hE
 have xf:Hid (im (⟨2,ii⟩:Va)=⟨2,ii⟩):=by rfl
 rw [xf.out] at HP
 have HH:=ab H
 have HB:Hid (Bl w (w.alloc (.cells #[int i64 2,int i64 ia,int i64 ib,int i64 ic,int i64 ii,.slice Q nl q] 55))):=(Bl.refl w).alloc _
 clear H hv hs
 rcases nT with rfl|rfl
 ·go_enter Tryz.func94,Tryz.ntmps94
  go_wp2_with (first
   | (go_at_call 100;refine (iZ ii _).mono ?_;rintro e w1 ⟨rfl,b1⟩;replace b1:=ab b1)
   | (go_at_call 95;refine (HH.out.y.useY (HB.out.trans b1.out) HP.out).mono ?_;rintro e w2 ⟨rfl,H2,K2⟩;replace H2:=ab H2;clear K2))
  go_end0
  exact HE.out _ H2.out.x
 ·go_enter Tryz.func94,Tryz.ntmps94
  go_wp2_with (first
   | (go_at_call 100;refine (iZ ii _).mono ?_;rintro e w1 ⟨rfl,b1⟩;replace b1:=ab b1)
   | (go_at_call 95;refine (HH.out.y.useY (HB.out.trans b1.out) HP.out).mono ?_;rintro e w2 ⟨rfl,H2,K2⟩;replace H2:=ab H2;clear K2))
  exact ⟨rfl,HE.out _ H2.out.x⟩
theorem Ga (H:RX 1 X wx w0 g w h qs a c) (hs:h.stops=false) (hl:c.stk.length<=1000) :
  Calls Tryz.prog 94 #[.pointer (some ⟨a.q,0,none⟩),.agg #[int i64 3,int i64 ia,int i64 ib,int i64 ic,int i64 ii,.slice Q nl q]] w fun e w'=>bT X wx w0 g qs a c (aM h c ⟨3,ia,ib,ic,ii,args⟩) e w':=by
 have hv:aG h ag ag ⟨3,ia,ib,ic,ii,args⟩=⟨3,-1⟩:=by
  have ho:h.over=false:=by unfold Hp.stops at hs;rw [Bool.or_eq_false_iff] at hs;exact hs.1
  unfold aG
  rw [if_neg (by rw [ho];decide)]
  simp
 rw [lN hs (by simp),hv]
 obtain ⟨E,hE⟩:∃E,(if (aQ ((c).stk++[(⟨3,-1⟩:Va)]):Int)<=(c).m.stack then Ending.returned (.tuple #[]) else aV 6 0 0)=E:=⟨_,rfl⟩
 have HP:Hid (∀X wx w,RX 1 X wx w0 g w h qs a (c)->Calls Tryz.prog 95 #[.pointer (some ⟨a.q,0,none⟩),cn (im (⟨3,-1⟩:Va))] w fun e w2=>e=E/\RX 1 X wx w0 g w2 h qs a ((c).put (⟨3,-1⟩:Va))):=fun X wx w H=>hE▸cM 1 X wx w0 g h qs a (c) (⟨3,-1⟩:Va) w H (show (1:Int)<=3/\(3:Int)<=3 from by decide) (hl)
 have HE:Hid (∀w',RX 1 X wx w0 g w' h qs a ((c).put (⟨3,-1⟩:Va))->bT X wx w0 g qs a c ⟨(h).putH (c) (⟨3,-1⟩:Va),(c).put (⟨3,-1⟩:Va),c.pc+1⟩ E w'):=fun w' H=>eO hs rfl ⟨rfl,rfl⟩ hE.symm H.less
 have nT:E=.returned (.tuple #[])∨E=aV 6 0 0:=by rw [<-hE];split;exact Or.inl rfl;exact Or.inr rfl
 clear hE
 have xf:Hid (im (⟨3,-1⟩:Va)=⟨3,0⟩):=by rfl
 rw [xf.out] at HP
 have HH:=ab H
 have HB:Hid (Bl w (w.alloc (.cells #[int i64 3,int i64 ia,int i64 ib,int i64 ic,int i64 ii,.slice Q nl q] 55))):=(Bl.refl w).alloc _
 clear H hv hs
 rcases nT with rfl|rfl
 ·go_enter Tryz.func94,Tryz.ntmps94
  go_wp2_with (first
   | (go_at_call 145;refine (ly _).mono ?_;rintro e w1 ⟨rfl,b1⟩;replace b1:=ab b1)
   | (go_at_call 95;refine (HH.out.y.useY (HB.out.trans b1.out) HP.out).mono ?_;rintro e w2 ⟨rfl,H2,K2⟩;replace H2:=ab H2;clear K2))
  go_end0
  exact HE.out _ H2.out.x
 ·go_enter Tryz.func94,Tryz.ntmps94
  go_wp2_with (first
   | (go_at_call 145;refine (ly _).mono ?_;rintro e w1 ⟨rfl,b1⟩;replace b1:=ab b1)
   | (go_at_call 95;refine (HH.out.y.useY (HB.out.trans b1.out) HP.out).mono ?_;rintro e w2 ⟨rfl,H2,K2⟩;replace H2:=ab H2;clear K2))
  exact ⟨rfl,HE.out _ H2.out.x⟩
end
theorem ba (hs:h.stops=false):h.over=false:=by unfold Hp.stops at hs;rw [Bool.or_eq_false_iff] at hs;exact hs.1
theorem tO (hs:h.stops=false):¬0<=h.thrown:=by unfold Hp.stops at hs;rw [Bool.or_eq_false_iff] at hs;simpa using hs.2
theorem qX (hs:h.stops=false) (H:RX 0 X wx w0 g w' h qs a c'):bT X wx w0 g qs a c ⟨h,c',nx⟩ (.returned (.tuple #[])) w':=by
 refine ⟨?_,fun q=>?_,fun _=>H⟩
 ·unfold js;dsimp only;rw [if_neg (by rw [ba hs];decide),if_neg (tO hs)]
 ·dsimp only at q;rw [hs] at q;exact absurd q (by decide)
theorem cZ {b:Bool} (hb:b=false):h.must b=h.fin 6:=by unfold Hp.must;rw [if_neg (by rw [hb];decide)]
theorem dJ {b:Bool} (hb:b=true):h.must b=h:=by unfold Hp.must;rw [if_pos hb]
section
variable (X:Nat->Prop) (wx w0:World) (g:Mg) (h:Hp) (qs:List Nat) (a:Mc) (c:aH) (ia ib ic ii:Int) (args:List Int) (Q:Option Addr) (nl q:Nat) (w:World)
theorem CJ (H:RX 1 X wx w0 g w h qs a c) (hs:h.stops=false) (hl:c.stk.length<=1000) :
  Calls Tryz.prog 94 #[.pointer (some ⟨a.q,0,none⟩),.agg #[int i64 22,int i64 ia,int i64 ib,int i64 ic,int i64 ii,.slice Q nl q]] w fun e w'=>bT X wx w0 g qs a c (aM h c ⟨22,ia,ib,ic,ii,args⟩) e w':=by
 have hd:aM h c ⟨22,ia,ib,ic,ii,args⟩=DD h c ⟨22,ia,ib,ic,ii,args⟩:=rfl
 rw [hd]
 unfold DD
 have HH:=ab H
 have HS:=ab hs
 have HB:Hid (Bl w (w.alloc (.cells #[int i64 22,int i64 ia,int i64 ib,int i64 ic,int i64 ii,.slice Q nl q] 55))):=(Bl.refl w).alloc _
 rcases gB (c:=c) with h0|⟨l,v,h0⟩
 ·rw [cZ (fE h0)]
  have H0:=ab h0
  clear H hs h0 hd
  go_enter Tryz.func94,Tryz.ntmps94
  go_wp2_with (go_at_call 143;refine (HH.out.y.useY HB.out (fun X wx w H=>nJ 1 X wx w0 g h qs a c w H H0.out)).mono ?_;rintro e w2 ⟨rfl,H2,K2⟩;replace H2:=ab H2;clear K2)
  exact ⟨rfl,cY (s:=0) (ba HS.out) rfl H2.out.x.less.rs⟩
 ·obtain ⟨h1,h2,h3⟩:=fF h0
  rw [dJ h1,h3]
  have H0:=ab h0
  clear H hs h0 hd h1 h2 h3
  go_enter Tryz.func94,Tryz.ntmps94
  go_wp2_with (go_at_call 143;refine (HH.out.y.useY HB.out (fun X wx w H=>iY 1 X wx w0 g h qs a c l v w H H0.out)).mono ?_;rintro e w2 ⟨rfl,H2,K2⟩;replace H2:=ab H2;clear K2)
  go_end0
  exact qX HS.out H2.out.x.less
theorem CK (H:RX 1 X wx w0 g w h qs a c) (hs:h.stops=false) (hl:c.stk.length<=1000) (hI:cL w0 g.I h.input) (hu:0<=h.sh.used) (Gb:h.input.length<=1000000) :
  Calls Tryz.prog 94 #[.pointer (some ⟨a.q,0,none⟩),.agg #[int i64 25,int i64 ia,int i64 ib,int i64 ic,int i64 ii,.slice Q nl q]] w fun e w'=>bT X wx w0 g qs a c (aM h c ⟨25,ia,ib,ic,ii,args⟩) e w':=by
 have ho:=ba hs
 have e2:c.cut 0=c:=by unfold aH.cut;simp
 have e3:h.must (c.has 0)=h:=by unfold Hp.must aH.has;simp
 have hd:aM h c ⟨25,ia,ib,ic,ii,args⟩=b8 h c ⟨25,ia,ib,ic,ii,args⟩:=rfl
 have em:aJ 25=0:=by decide
 have eg:∀x y,givesH h x y ⟨25,ia,ib,ic,ii,args⟩=h.input':=by intro x y;unfold givesH;rw [if_neg (by rw [ho];decide)];simp
 have ev:∀x y,aG h x y ⟨25,ia,ib,ic,ii,args⟩=h.inV:=by intro x y;unfold aG;rw [if_neg (by rw [ho];decide)];simp
 rw [hd]
 unfold b8
 dsimp only
 rw [em,e3,eg,ev,e2]
 have HH:=ab H
 have HS:=ab hs
 have HI:=ab (And.intro hI (And.intro hu Gb))
 have Mu:=H.qlt
 have HB:Hid (Bl w (w.alloc (.cells #[int i64 25,int i64 ia,int i64 ib,int i64 ic,int i64 ii,.slice Q nl q] 55))):=(Bl.refl w).alloc _
 have x1:w.cell? ⟨a.q,1,none⟩=some (.pointer (some ⟨g.r,0,none⟩)):=by
  obtain ⟨vc,vo,vx,vs,l,H⟩:=H
  exact H.ca.cells.c1
 cases yu:h.dry with
 | true =>
  have e1:h.input'=h.fin 3:=by unfold Hp.input';rw [if_pos yu]
  rw [e1,if_pos (by simp [Hp.stops,(kq ho 3).1])]
  have HD:=ab yu
  clear H hs hd hI hu Gb eg ev e1 e2 e3 em yu
  go_enter Tryz.func94,Tryz.ntmps94
  go_wp2_with (go_at_call 151;refine (HH.out.y.useY HB.out (fun X wx w H=>Mf 1 X wx w0 g h qs a c w H HD.out)).mono ?_;rintro e w2 ⟨rfl,H2,K2⟩;replace H2:=ab H2;clear K2)
  exact ⟨rfl,cY (s:=0) ho rfl H2.out.x.less.rs⟩
 | false =>
  have e1:h.input'=h.uses:=by unfold Hp.input' Hp.uses;rw [if_neg (by rw [yu];decide)]
  have e5:h.inV=⟨2,nth (0:Int) h.input h.sh.used.toNat⟩:=by unfold Hp.inV;rw [if_neg (by rw [yu];decide)]
  rw [e1,e5]
  have tf:h.uses.stops=false:=hs
  rw [if_neg (by rw [tf];decide)]
  obtain ⟨N,hN⟩:∃N,nth (0:Int) h.input h.sh.used.toNat=N:=⟨_,rfl⟩
  rw [hN]
  have HD:=ab yu
  have OX:=ab hN
  obtain ⟨E,hE⟩:∃E,(if (aQ ((c).stk++[(⟨2,N⟩:Va)]):Int)<=(c).m.stack then Ending.returned (.tuple #[]) else aV 6 0 0)=E:=⟨_,rfl⟩
  have HP:Hid (∀X wx w,RX 1 X wx w0 g w h.uses qs a (c)->Calls Tryz.prog 95 #[.pointer (some ⟨a.q,0,none⟩),cn (im (⟨2,N⟩:Va))] w fun e w2=>e=E/\RX 1 X wx w0 g w2 h.uses qs a ((c).put (⟨2,N⟩:Va))):=fun X wx w H=>hE▸cM 1 X wx w0 g h.uses qs a (c) (⟨2,N⟩:Va) w H (show (1:Int)<=2/\(2:Int)<=3 from by decide) (hl)
  have HE:Hid (∀w',RX 1 X wx w0 g w' h.uses qs a ((c).put (⟨2,N⟩:Va))->bT X wx w0 g qs a c ⟨(h.uses).putH (c) (⟨2,N⟩:Va),(c).put (⟨2,N⟩:Va),c.pc+1⟩ E w'):=fun w' H=>eO tf rfl ⟨rfl,rfl⟩ hE.symm H.less
  have nT:E=.returned (.tuple #[])∨E=aV 6 0 0:=by rw [<-hE];split;exact Or.inl rfl;exact Or.inr rfl
  clear hE
  clear H hs hd hI hu Gb eg ev e1 e2 e3 e5 em yu hN tf
  rcases nT with rfl|rfl
  ·go_enter Tryz.func94,Tryz.ntmps94
   go_wp2_with (first
    | (go_at_call 151;refine (HH.out.y.useY HB.out (fun X wx w H=>OX.out▸zU 1 X wx w0 g h qs a c w H HI.out.1 HD.out HI.out.2.1 HI.out.2.2)).mono ?_;rintro e w1 ⟨rfl,H1,K1⟩;replace H1:=ab H1;clear K1)
    | (go_at_call 95;refine (H1.out.useY (Bl.refl _) HP.out).mono ?_;rintro e w2 ⟨rfl,H2,K2⟩;replace H2:=ab H2;clear K2))
   go_end0
   exact HE.out _ H2.out.x
  ·go_enter Tryz.func94,Tryz.ntmps94
   go_wp2_with (first
    | (go_at_call 151;refine (HH.out.y.useY HB.out (fun X wx w H=>OX.out▸zU 1 X wx w0 g h qs a c w H HI.out.1 HD.out HI.out.2.1 HI.out.2.2)).mono ?_;rintro e w1 ⟨rfl,H1,K1⟩;replace H1:=ab H1;clear K1)
    | (go_at_call 95;refine (H1.out.useY (Bl.refl _) HP.out).mono ?_;rintro e w2 ⟨rfl,H2,K2⟩;replace H2:=ab H2;clear K2))
   exact ⟨rfl,HE.out _ H2.out.x⟩
end
end
section
open Go.Maps (Keyed has)
theorem gT {b b' i:Nat} {k n x:Value} (h:w.cell? ⟨b,i,none⟩=some x) (hb:b≠b'):((w.setCell ⟨b',0,none⟩ k).setCell ⟨b',1,none⟩ n).cell? ⟨b,i,none⟩=some x:=by
 rw [World.cell?_setCell_far _ _ _ _ (Ne.symm hb),World.cell?_setCell_far _ _ _ _ (Ne.symm hb)];exact h
section
variable (X:Nat->Prop) (wx w0:World) (g:Mg) (h:Hp) (qs:List Nat) (a:Mc) (c:aH) (k op:Int) (w:World)
theorem qY (H:RX 1 X wx w0 g w h qs a c) (hn:∀l u v,c.stk=l++[u,v]->u.kind=k->v.kind=k->False) :
  Calls Tryz.prog 192 #[.pointer (some ⟨a.q,0,none⟩),int i64 k,int i64 op] w fun e w'=>e=aV 6 0 0/\RS 1 X wx w0 g w' h qs a c:=by
 have HH:=ab H
 have HN:=ab hn
 have HB:Hid (Bl w (w.alloc eT)):=(Bl.refl w).alloc _
 clear H hn
 go_enter Tryz.func192,Tryz.ntmps192
 go_wp2_with (go_at_call 193;refine (HH.out.y.useN HB.out (fun X wx w H=>qx 1 X wx w0 g h qs a c k w H HN.out)).mono ?_;rintro e w1 ⟨rfl,H1⟩;replace H1:=ab H1)
 exact ⟨rfl,rfl,H1.out⟩
theorem o9 (H:RX 1 X wx w0 g w h qs a c) (l:List Va) (u v:Va) (hs:c.stk=l++[u,v]) (hu:u.kind=k) (hv:v.kind=k) (hk:k=1∨k=2) (hr:iM k op u v=true) :
  Calls Tryz.prog 192 #[.pointer (some ⟨a.q,0,none⟩),int i64 k,int i64 op] w fun e w'=>e=.returned (cn ⟨k,j7 k op u v⟩)/\RX 1 X wx w0 g w' h qs a { c with stk:=l }:=by
 have HH:=ab H
 have HS:=ab hs
 have HK:=ab (And.intro hu (And.intro hv hk))
 have HR:=ab hr
 have HU:Hid (im u=u/\im v=v):=⟨eJ (by rcases hk with q|q<;>omega),eJ (by rcases hk with q|q<;>omega)⟩
 have HB:Hid (Bl w (w.alloc eT)):=(Bl.refl w).alloc _
 have HL:=ab (aD w #[int i64 0,int i64 0] 100)
 clear H hs hu hv hk hr
 go_enter Tryz.func192,Tryz.ntmps192
 go_wp2_with (go_at_call 193;refine (HH.out.y.useY HB.out (fun X wx w H=>lA 1 X wx w0 g h qs a c l u v k w H HS.out HK.out.1 HK.out.2.1)).mono ?_;rintro e w1 ⟨he,H1,K1⟩;rw [HU.out.1,HU.out.2] at he;subst he;have q0:=K1.at (Xp.new (Nat.le_refl _) (cX w _)) HL.out;clear K1;replace H1:=ab H1;replace q0:=ab q0)
 have H2:=H1.out.bl (((Bl.refl w1).alloc (dL u)).alloc (dL v))
 obtain ⟨M0,M1⟩:=bD w1 #[int i64 u.kind,int i64 u.n] #[int i64 v.kind,int i64 v.n] 100 100
 have hw1:=af q0.out
 have z0:=ab H2.hb
 have z1:=ab (aK M0)
 have z2:=ab (aI M0)
 have z3:=ab (aK M1)
 have z4:=ab (aI M1)
 have q1:=ab (ai (((Bl.refl w1).alloc (dL u)).alloc (dL v)) q0.out)
 replace H2:=ab H2
 have Jw:a.q≠w.heap.size:=by have:=HH.out.qlt;omega
 clear H1 q0 M0 M1
 refine wp_region_held_drew (S:=fun w'=>w'.cell? ⟨a.q,0,none⟩=some (.pointer (some ⟨g.hb,0,none⟩))/\w'.cell? ⟨w1.heap.size,0,none⟩=some (int i64 u.kind)/\w'.cell? ⟨w1.heap.size,1,none⟩=some (int i64 u.n)/\w'.cell? ⟨w1.heap.size+1,0,none⟩=some (int i64 v.kind)/\w'.cell? ⟨w1.heap.size+1,1,none⟩=some (int i64 v.n)) (by kernel_rfl) ?_ (fun ae=>?_)
 ·exact ⟨z0.out,z1.out,z2.out,z3.out,z4.out⟩
 iterate 8 (refine tn rfl (by kernel_rfl) (fun _ _ _ h=>h) (by intro _ h;go_split_ands;go_simp<;>with_reducible rfl) ae ?_;try simp only [aS,aN,aT,a0,a1])
 refine bI (i:=8) (by kernel_rfl) rfl fun K hK=>?_
 go_simp
 go_at_call 231
 refine (yz g.hb k op u v HK.out.2.2 HR.out _).mono ?_
 rintro e w2 ⟨rfl,b2⟩
 have d0:=ab (b2.cell ae.1)
 have d1:=ab (b2.cell ae.2.1)
 have d2:=ab (b2.cell ae.2.2.1)
 have d3:=ab (b2.cell ae.2.2.2.1)
 have d4:=ab (b2.cell ae.2.2.2.2)
 have q2:=ai b2 q1.out
 have c4:=aK q2
 have c5:=aI q2
 have fz:=ay q2
 replace b2:=ab b2
 replace q2:=ab q2
 go_wp2_with fail
 refine hK.out _ _ (⟨d0.out,d1.out,d2.out,d3.out,d4.out⟩) (fun ah=>?_)
 try simp only [aS,aN,aT,a0,a1]
 refine bI (i:=9) (by kernel_rfl) rfl fun K hK=>?_
 go_wp2_with fail
 refine hK.out _ _ (⟨gT d0.out Jw,gT d1.out (by omega),gT d2.out (by omega),gT d3.out (by omega),gT d4.out (by omega)⟩) (fun aX=>?_)
 try simp only [aS,aN,aT,a0,a1]
 refine wpAnyH_done (by kernel_rfl) ?_ _
 go_wp2
 refine bodyPost_ret (results_cell_row rfl _ _ w.heap.size _ _ _ _ rfl (bQ q2.out) Tryz.underlying100 rfl bK) rfl ?_
 refine ⟨rfl,cK.x (cK.set (cK.set (H2.out.bl ((Bl.refl _).drew.trans b2.out)) ?_ 0 _) ?_ 1 _)⟩<;>exact Xp.old (Xp.old (Xp.new (Nat.le_refl _) (cX w _)))
theorem lO (H:RX 1 X wx w0 g w h qs a c) (l:List Va) (u v:Va) (hs:c.stk=l++[u,v]) (hu:u.kind=k) (hv:v.kind=k) (hk:k=1∨k=2) (hr:iM k op u v=false) (hl:h.objs.length<=100) (ho:h.over=false) :
  Calls Tryz.prog 192 #[.pointer (some ⟨a.q,0,none⟩),int i64 k,int i64 op] w fun e w'=>e=bM h/\RX 1 X wx w0 g w' (h.raise 2) qs a { c with stk:=l }:=by
 have HH:=ab H
 have HS:=ab hs
 have HK:=ab (And.intro hu (And.intro hv hk))
 have HR:=ab hr
 have UD:=ab (And.intro hl ho)
 have HU:Hid (im u=u/\im v=v):=⟨eJ (by rcases hk with q|q<;>omega),eJ (by rcases hk with q|q<;>omega)⟩
 have HB:Hid (Bl w (w.alloc eT)):=(Bl.refl w).alloc _
 have HL:=ab (aD w #[int i64 0,int i64 0] 100)
 obtain ⟨E,hE⟩:∃E,bM h=E:=⟨_,rfl⟩
 have HE:=ab hE
 rw [hE]
 have HX:Hid (∃ch,E=.panicked ch):=by
  rw [<-hE];unfold bM;split<;>exact ⟨_,rfl⟩
 clear H hs hu hv hk hr hl ho hE
 obtain ⟨ch,rfl⟩:=HX.out
 go_enter Tryz.func192,Tryz.ntmps192
 go_wp2_with (go_at_call 193;refine (HH.out.y.useY HB.out (fun X wx w H=>lA 1 X wx w0 g h qs a c l u v k w H HS.out HK.out.1 HK.out.2.1)).mono ?_;rintro e w1 ⟨he,H1,K1⟩;rw [HU.out.1,HU.out.2] at he;subst he;have q0:=K1.at (Xp.new (Nat.le_refl _) (cX w _)) HL.out;clear K1;replace H1:=ab H1;replace q0:=ab q0)
 have H2:=H1.out.bl (((Bl.refl w1).alloc (dL u)).alloc (dL v))
 obtain ⟨M0,M1⟩:=bD w1 #[int i64 u.kind,int i64 u.n] #[int i64 v.kind,int i64 v.n] 100 100
 have z0:=ab H2.hb
 have z1:=ab (aK M0)
 have z2:=ab (aI M0)
 have z3:=ab (aK M1)
 have z4:=ab (aI M1)
 replace H2:=ab H2
 clear H1 q0 M0 M1
 refine wp_region_held_drew (S:=fun w'=>w'.cell? ⟨a.q,0,none⟩=some (.pointer (some ⟨g.hb,0,none⟩))/\w'.cell? ⟨w1.heap.size,0,none⟩=some (int i64 u.kind)/\w'.cell? ⟨w1.heap.size,1,none⟩=some (int i64 u.n)/\w'.cell? ⟨w1.heap.size+1,0,none⟩=some (int i64 v.kind)/\w'.cell? ⟨w1.heap.size+1,1,none⟩=some (int i64 v.n)) (by kernel_rfl) ?_ (fun ae=>?_)
 ·exact ⟨z0.out,z1.out,z2.out,z3.out,z4.out⟩
 iterate 8 (refine tn rfl (by kernel_rfl) (fun _ _ _ h=>h) (by intro _ h;go_split_ands;go_simp<;>with_reducible rfl) ae ?_;try simp only [aS,aN,aT,a0,a1])
 refine bI (i:=8) (by kernel_rfl) rfl fun K hK=>?_
 go_simp
 go_at_call 231
 refine (BL 1 X wx w0 g h qs a { c with stk:=l } k op u v HK.out.2.2 HR.out _ (H2.out.x.bl (Bl.refl _).drew) UD.out.1 UD.out.2).mono ?_
 rintro e w2 ⟨he,H3⟩
 rw [HE.out] at he
 subst he
 exact ⟨rfl,rfl,H3⟩
end
end
section
open Go.Maps (Keyed has)
section
variable {s:Nat} {X Y:Nat->Prop} {wx w0 w:World} {g:Mg} {h:Hp} {qs:List Nat} {a:Mc} {c:aH}
theorem cK.c11 (H:cK s X Y wx w0 g w h qs a c):w.cell? ⟨a.q,11,none⟩=some (.slice (some ⟨a.lb,0,none⟩) c.locs.length a.lc):=by
 obtain ⟨vc,vo,vx,vs,l,H,-⟩:=H
 exact H.ca.cells.c11
theorem cK.c1 (H:cK s X Y wx w0 g w h qs a c):w.cell? ⟨a.q,1,none⟩=some (.pointer (some ⟨g.r,0,none⟩)):=by
 obtain ⟨vc,vo,vx,vs,l,H,-⟩:=H
 exact H.ca.cells.c1
end
abbrev py (op ia ib ic ii:Int) (Q:Option Addr) (nl q:Nat):Obj:=.cells #[int i64 op,int i64 ia,int i64 ib,int i64 ic,int i64 ii,.slice Q nl q] 55
theorem aF {b:Nat} {op ia ib ic ii:Int} {Q:Option Addr} {nl q:Nat} (h:w.heap[b]?=some (.cells #[int i64 op,int i64 ia,int i64 ib,int i64 ic,int i64 ii,.slice Q nl q] 55 (0,0))):w.cell? ⟨b,1,none⟩=some (int i64 ia)/\w.cell? ⟨b,2,none⟩=some (int i64 ib):=by
 constructor<;>(rw [aa h];rfl)
theorem Gd (X:Nat->Prop) (wx w0:World) (g:Mg) (h:Hp) (qs:List Nat) (a:Mc) (c:aH) (ia ib ic ii:Int) (args:List Int) (Q:Option Addr) (nl q:Nat) (w:World) (H:RX 1 X wx w0 g w h qs a c) (hs:h.stops=false) (hl:c.stk.length<=1000) (hok:0<=ia/\ia<c.locs.length/\(ib=2->ia+1<c.locs.length)) (hk:1<=ib/\ib<=3) :
  Calls Tryz.prog 94 #[.pointer (some ⟨a.q,0,none⟩),.agg #[int i64 4,int i64 ia,int i64 ib,int i64 ic,int i64 ii,.slice Q nl q]] w fun e w'=>bT X wx w0 g qs a c (aM h c ⟨4,ia,ib,ic,ii,args⟩) e w':=by
 obtain ⟨n,rfl⟩:∃n:Nat,ia=n:=⟨ia.toNat,by omega⟩
 have hn:n<c.locs.length:=by omega
 have h2:ib=2->n+1<c.locs.length:=fun e=>by have:=hok.2.2 e;omega
 have hd:aM h c ⟨4,(n:Int),ib,ic,ii,args⟩=kR h c ⟨4,(n:Int),ib,ic,ii,args⟩:=rfl
 rw [hd]
 unfold kR
 dsimp only
 rw [Int.toNat_natCast]
 have HH:=ab H
 have HS:=ab hs
 have Mu:=H.qlt
 have HB:Hid (Bl w (w.alloc (.cells #[int i64 4,int i64 (n:Int),int i64 ib,int i64 ic,int i64 ii,.slice Q nl q] 55))):=(Bl.refl w).alloc _
 have HL:=ab (aD w #[int i64 4,int i64 (n:Int),int i64 ib,int i64 ic,int i64 ii,.slice Q nl q] 55)
 have HA:Hid (∃vs l,CA w0 g w a c l vs):=by
  obtain ⟨vc,vo,vx,vs,l,H⟩:=H
  exact ⟨vs,l,H.ca⟩
 obtain ⟨vs,l,HC⟩:=HA.out
 have SF:Hid (∀w',Bl w w'->CA w0 g w' a c l vs):=fun w' hb=>HC.kept (dy hb none) (fun b e=>by cases e)
 have z0:=ab ((H.y.bl HB.out).c11)
 have z1:=ab (aF HL.out).1
 have z2:=ab (aF HL.out).2
 have kr:h.mustB (decide ((nth ag c.locs n).kind=ib))=decide ((nth ag c.locs n).kind=ib):=by unfold Hp.mustB;rw [ba hs];simp
 rw [kr]
 by_cases hv:(nth ag c.locs n).kind=ib
 ·rw [if_pos (by simpa using hv)]
  have HV:=ab hv
  have HN:=ab (And.intro hn (And.intro hk h2))
  obtain ⟨E,hE⟩:∃E,(if (aQ ((c).stk++[(nth ag c.locs n)]):Int)<=(c).m.stack then Ending.returned (.tuple #[]) else aV 6 0 0)=E:=⟨_,rfl⟩
  have HP:Hid (∀X wx w,RX 1 X wx w0 g w h qs a (c)->Calls Tryz.prog 95 #[.pointer (some ⟨a.q,0,none⟩),cn (im (nth ag c.locs n))] w fun e w2=>e=E/\RX 1 X wx w0 g w2 h qs a ((c).put (nth ag c.locs n))):=fun X wx w H=>hE▸cM 1 X wx w0 g h qs a (c) (nth ag c.locs n) w H (by rw [hv];exact hk) (hl)
  have HE:Hid (∀w',RX 1 X wx w0 g w' h qs a ((c).put (nth ag c.locs n))->bT X wx w0 g qs a c ⟨(h).putH (c) (nth ag c.locs n),(c).put (nth ag c.locs n),c.pc+1⟩ E w'):=fun w' H=>eO hs rfl ⟨rfl,rfl⟩ hE.symm H.less
  have nT:E=.returned (.tuple #[])∨E=aV 6 0 0:=by rw [<-hE];split;exact Or.inl rfl;exact Or.inr rfl
  clear hE
  clear H hs hd HC HA kr hv hok hk h2 hn
  rcases nT with rfl|rfl
  ·go_enter Tryz.func94,Tryz.ntmps94
   go_wp2
   refine wp_region_held_drew (S:=fun w'=>w'.cell? ⟨a.q,11,none⟩=some (.slice (some ⟨a.lb,0,none⟩) c.locs.length a.lc)/\w'.cell? ⟨w.heap.size,1,none⟩=some (int i64 (n:Int))/\w'.cell? ⟨w.heap.size,2,none⟩=some (int i64 ib)) (by kernel_rfl) ?_ (fun ae=>?_)
   ·exact ⟨z0.out,z1.out,z2.out⟩
   iterate 9 (refine tn rfl (by kernel_rfl) (fun _ _ _ h=>h) (by intro _ h;go_split_ands;go_simp<;>with_reducible rfl) ae ?_;try simp only [aS,aN,aT,a0,a1])
   refine bI (i:=9) (by kernel_rfl) rfl fun K hK=>?_
   go_simp
   go_at_call 149
   refine (wB (SF.out _ HB.out.drew) n ib HN.out.1 HN.out.2.1 HN.out.2.2 HV.out).mono ?_
   rintro e w1 ⟨rfl,b1⟩
   have d0:=ab (b1.cell ae.1)
   have d1:=ab (b1.cell ae.2.1)
   have d2:=ab (b1.cell ae.2.2)
   replace b1:=ab b1
   go_wp2_with fail
   refine hK.out _ _ (⟨d0.out,d1.out,d2.out⟩) (fun ah=>?_)
   try simp only [aS,aN,aT,a0,a1]
   refine bI (i:=10) (by kernel_rfl) rfl fun K hK=>?_
   go_simp
   go_at_call 95
   refine (HH.out.y.useY (HB.out.drew.trans b1.out) HP.out).mono ?_
   rintro e w2 ⟨rfl,H2,K2⟩
   replace H2:=ab H2
   have kN:=ai b1.out HL.out
   go_wp2_with fail
   refine hK.out _ _ (⟨H2.out.c11,(aF (K2.at (Xp.new (Nat.le_refl _) (af kN)) kN)).1,(aF (K2.at (Xp.new (Nat.le_refl _) (af kN)) kN)).2⟩) (fun aX=>?_)
   try simp only [aS,aN,aT,a0,a1]
   refine wpAnyH_done (by kernel_rfl) ?_ _
   go_wp2
   go_end0
   exact HE.out _ H2.out.x
  ·go_enter Tryz.func94,Tryz.ntmps94
   go_wp2
   refine wp_region_held_drew (S:=fun w'=>w'.cell? ⟨a.q,11,none⟩=some (.slice (some ⟨a.lb,0,none⟩) c.locs.length a.lc)/\w'.cell? ⟨w.heap.size,1,none⟩=some (int i64 (n:Int))/\w'.cell? ⟨w.heap.size,2,none⟩=some (int i64 ib)) (by kernel_rfl) ?_ (fun ae=>?_)
   ·exact ⟨z0.out,z1.out,z2.out⟩
   iterate 9 (refine tn rfl (by kernel_rfl) (fun _ _ _ h=>h) (by intro _ h;go_split_ands;go_simp<;>with_reducible rfl) ae ?_;try simp only [aS,aN,aT,a0,a1])
   refine bI (i:=9) (by kernel_rfl) rfl fun K hK=>?_
   go_simp
   go_at_call 149
   refine (wB (SF.out _ HB.out.drew) n ib HN.out.1 HN.out.2.1 HN.out.2.2 HV.out).mono ?_
   rintro e w1 ⟨rfl,b1⟩
   have d0:=ab (b1.cell ae.1)
   have d1:=ab (b1.cell ae.2.1)
   have d2:=ab (b1.cell ae.2.2)
   replace b1:=ab b1
   go_wp2_with fail
   refine hK.out _ _ (⟨d0.out,d1.out,d2.out⟩) (fun ah=>?_)
   try simp only [aS,aN,aT,a0,a1]
   refine bI (i:=10) (by kernel_rfl) rfl fun K hK=>?_
   go_simp
   go_at_call 95
   refine (HH.out.y.useY (HB.out.drew.trans b1.out) HP.out).mono ?_
   rintro e w2 ⟨rfl,H2,K2⟩
   exact ⟨rfl,HE.out _ H2.x⟩
 ·rw [if_neg (by simpa using hv),cZ (by simpa using hv)]
  have HV:=ab hv
  have HN:=ab (And.intro hn (And.intro hk h2))
  clear H hs hd HC HA kr hv hok hk h2 hn
  go_enter Tryz.func94,Tryz.ntmps94
  go_wp2
  refine wp_region_held_drew (S:=fun w'=>w'.cell? ⟨a.q,11,none⟩=some (.slice (some ⟨a.lb,0,none⟩) c.locs.length a.lc)/\w'.cell? ⟨w.heap.size,1,none⟩=some (int i64 (n:Int))/\w'.cell? ⟨w.heap.size,2,none⟩=some (int i64 ib)) (by kernel_rfl) ?_ (fun ae=>?_)
  ·exact ⟨z0.out,z1.out,z2.out⟩
  iterate 9 (refine tn rfl (by kernel_rfl) (fun _ _ _ h=>h) (by intro _ h;go_split_ands;go_simp<;>with_reducible rfl) ae ?_;try simp only [aS,aN,aT,a0,a1])
  refine bI (i:=9) (by kernel_rfl) rfl fun K hK=>?_
  go_simp
  go_at_call 149
  refine (IE (SF.out _ HB.out.drew) n ib HN.out.1 HN.out.2.1 HN.out.2.2 HV.out).mono ?_
  rintro e w1 ⟨rfl,b1⟩
  exact ⟨rfl,cY (s:=0) (ba HS.out) rfl (HH.out.bl (HB.out.drew.trans b1)).less.rs⟩
end
section
open Go.Maps (Keyed has)
theorem nU (a b:Int) (w:World):(Instr.field 100 (.agg #[int i64 a,int i64 b]) 1).run Tryz.prog w=.ok (int i64 b) w:=by
 simp [Instr.field,go_sem,Tryz.underlying100,run_underlying Tryz.underlying100,run_underlying Tryz.underlying2,asAgg]
section
variable (X:Nat->Prop) (wx w0:World) (g:Mg) (h:Hp) (qs:List Nat) (a:Mc) (c:aH) (ia ib ic ii:Int) (Q:Option Addr) (nl q:Nat) (w:World)
theorem za (H:RX 1 X wx w0 g w h qs a c) (hn:∀l u v,c.stk=l++[u,v]->u.kind=1->v.kind=1->False) :
  Calls Tryz.prog 152 #[.pointer (some ⟨a.q,0,none⟩),.agg #[int i64 6,int i64 ia,int i64 ib,int i64 ic,int i64 ii,.slice Q nl q]] w fun e w'=>e=aV 6 0 0/\RS 1 X wx w0 g w' h qs a c:=by
 have HH:=ab H
 obtain ⟨L0,L1⟩:=bD w #[int i64 6,int i64 ia,int i64 ib,int i64 ic,int i64 ii,.slice Q nl q] #[int i64 0,int i64 0] 55 100
 have HB:Hid (Bl w ((w.alloc (py 6 ia ib ic ii Q nl q)).alloc eT)):=((Bl.refl w).alloc _).alloc _
 have gx:=ab L1
 have HN:=ab hn
 clear H hn L0 L1
 go_enter Tryz.func152,Tryz.ntmps152
 go_wp2_with (go_at_call 192;refine (HH.out.y.useN HB.out (fun X wx w H=>qY X wx w0 g h qs a c 1 ia w H HN.out)).mono ?_;rintro e w1 ⟨rfl,H1⟩;replace H1:=ab H1)
 exact ⟨rfl,rfl,H1.out⟩
theorem xg (H:RX 1 X wx w0 g w h qs a c) (l:List Va) (u v:Va) (hs:c.stk=l++[u,v]) (hu:u.kind=1) (hv:v.kind=1) (hr:iM 1 ia u v=true) :
  Calls Tryz.prog 152 #[.pointer (some ⟨a.q,0,none⟩),.agg #[int i64 6,int i64 ia,int i64 ib,int i64 ic,int i64 ii,.slice Q nl q]] w fun e w'=>e=.returned (cn ⟨1,j7 1 ia u v⟩)/\RX 1 X wx w0 g w' h qs a { c with stk:=l }:=by
 have HH:=ab H
 obtain ⟨L0,L1⟩:=bD w #[int i64 6,int i64 ia,int i64 ib,int i64 ic,int i64 ii,.slice Q nl q] #[int i64 0,int i64 0] 55 100
 have HB:Hid (Bl w ((w.alloc (py 6 ia ib ic ii Q nl q)).alloc eT)):=((Bl.refl w).alloc _).alloc _
 have gx:=ab L1
 have HK:=ab (And.intro hs (And.intro hu (And.intro hv hr)))
 clear H hs hu hv hr L0 L1
 go_enter Tryz.func152,Tryz.ntmps152
 go_wp2_with (go_at_call 192;refine (HH.out.y.useY HB.out (fun X wx w H=>o9 X wx w0 g h qs a c 1 ia w H l u v HK.out.1 HK.out.2.1 HK.out.2.2.1 (by decide) HK.out.2.2.2)).mono ?_;rintro e w1 ⟨rfl,H1,K1⟩;have q1:=K1.at (Xp.new (Nat.le_succ _) (cA w _ _)) gx.out;have c4:=aK q1;have c5:=aI q1;have fz:=ay q1;clear K1;replace H1:=ab H1;replace q1:=ab q1)
 refine bodyPost_ret (results_cell_row rfl _ _ (w.heap.size+1) _ _ _ _ rfl (bQ q1.out) Tryz.underlying100 rfl bK) rfl ?_
 refine ⟨rfl,cK.x (cK.set (cK.set H1.out ?_ 0 _) ?_ 1 _)⟩<;>exact Xp.new (Nat.le_succ _) (cA w _ _)
theorem qZ (H:RX 1 X wx w0 g w h qs a c) (l:List Va) (u v:Va) (hs:c.stk=l++[u,v]) (hu:u.kind=1) (hv:v.kind=1) (hr:iM 1 ia u v=false) (hl:h.objs.length<=100) (ho:h.over=false) :
  Calls Tryz.prog 152 #[.pointer (some ⟨a.q,0,none⟩),.agg #[int i64 6,int i64 ia,int i64 ib,int i64 ic,int i64 ii,.slice Q nl q]] w fun e w'=>e=bM h/\RX 1 X wx w0 g w' (h.raise 2) qs a { c with stk:=l }:=by
 have HH:=ab H
 obtain ⟨L0,L1⟩:=bD w #[int i64 6,int i64 ia,int i64 ib,int i64 ic,int i64 ii,.slice Q nl q] #[int i64 0,int i64 0] 55 100
 have HB:Hid (Bl w ((w.alloc (py 6 ia ib ic ii Q nl q)).alloc eT)):=((Bl.refl w).alloc _).alloc _
 have gx:=ab L1
 have HK:=ab (And.intro hs (And.intro hu (And.intro hv (And.intro hr (And.intro hl ho)))))
 obtain ⟨E,hE⟩:∃E,bM h=E:=⟨_,rfl⟩
 have HE:=ab hE
 rw [hE]
 have HX:Hid (∃ch,E=.panicked ch):=by
  rw [<-hE];unfold bM;split<;>exact ⟨_,rfl⟩
 clear H hs hu hv hr hl ho L0 L1 hE
 obtain ⟨ch,rfl⟩:=HX.out
 go_enter Tryz.func152,Tryz.ntmps152
 go_wp2_with (go_at_call 192;refine (HH.out.y.useY HB.out (fun X wx w H=>lO X wx w0 g h qs a c 1 ia w H l u v HK.out.1 HK.out.2.1 HK.out.2.2.1 (by decide) HK.out.2.2.2.1 HK.out.2.2.2.2.1 HK.out.2.2.2.2.2)).mono ?_;rintro e w1 ⟨he,H1,K1⟩;rw [HE.out] at he;subst he;clear K1;replace H1:=ab H1)
 exact ⟨rfl,rfl,H1.out.x⟩
theorem zb (H:RX 1 X wx w0 g w h qs a c) (hn:∀l u v,c.stk=l++[u,v]->u.kind=2->v.kind=2->False) :
  Calls Tryz.prog 152 #[.pointer (some ⟨a.q,0,none⟩),.agg #[int i64 7,int i64 ia,int i64 ib,int i64 ic,int i64 ii,.slice Q nl q]] w fun e w'=>e=aV 6 0 0/\RS 1 X wx w0 g w' h qs a c:=by
 have HH:=ab H
 obtain ⟨L0,L1⟩:=bD w #[int i64 7,int i64 ia,int i64 ib,int i64 ic,int i64 ii,.slice Q nl q] #[int i64 0,int i64 0] 55 100
 have HB:Hid (Bl w ((w.alloc (py 7 ia ib ic ii Q nl q)).alloc eT)):=((Bl.refl w).alloc _).alloc _
 have gx:=ab L1
 have HN:=ab hn
 clear H hn L0 L1
 go_enter Tryz.func152,Tryz.ntmps152
 go_wp2_with (go_at_call 192;refine (HH.out.y.useN HB.out (fun X wx w H=>qY X wx w0 g h qs a c 2 ia w H HN.out)).mono ?_;rintro e w1 ⟨rfl,H1⟩;replace H1:=ab H1)
 exact ⟨rfl,rfl,H1.out⟩
theorem xh (H:RX 1 X wx w0 g w h qs a c) (l:List Va) (u v:Va) (hs:c.stk=l++[u,v]) (hu:u.kind=2) (hv:v.kind=2) (hr:iM 2 ia u v=true) :
  Calls Tryz.prog 152 #[.pointer (some ⟨a.q,0,none⟩),.agg #[int i64 7,int i64 ia,int i64 ib,int i64 ic,int i64 ii,.slice Q nl q]] w fun e w'=>e=.returned (cn ⟨2,j7 2 ia u v⟩)/\RX 1 X wx w0 g w' h qs a { c with stk:=l }:=by
 have HH:=ab H
 obtain ⟨L0,L1⟩:=bD w #[int i64 7,int i64 ia,int i64 ib,int i64 ic,int i64 ii,.slice Q nl q] #[int i64 0,int i64 0] 55 100
 have HB:Hid (Bl w ((w.alloc (py 7 ia ib ic ii Q nl q)).alloc eT)):=((Bl.refl w).alloc _).alloc _
 have gx:=ab L1
 have HK:=ab (And.intro hs (And.intro hu (And.intro hv hr)))
 clear H hs hu hv hr L0 L1
 go_enter Tryz.func152,Tryz.ntmps152
 go_wp2_with (go_at_call 192;refine (HH.out.y.useY HB.out (fun X wx w H=>o9 X wx w0 g h qs a c 2 ia w H l u v HK.out.1 HK.out.2.1 HK.out.2.2.1 (by decide) HK.out.2.2.2)).mono ?_;rintro e w1 ⟨rfl,H1,K1⟩;have q1:=K1.at (Xp.new (Nat.le_succ _) (cA w _ _)) gx.out;have c4:=aK q1;have c5:=aI q1;have fz:=ay q1;clear K1;replace H1:=ab H1;replace q1:=ab q1)
 refine bodyPost_ret (results_cell_row rfl _ _ (w.heap.size+1) _ _ _ _ rfl (bQ q1.out) Tryz.underlying100 rfl bK) rfl ?_
 refine ⟨rfl,cK.x (cK.set (cK.set H1.out ?_ 0 _) ?_ 1 _)⟩<;>exact Xp.new (Nat.le_succ _) (cA w _ _)
theorem qu (H:RX 1 X wx w0 g w h qs a c) (l:List Va) (u v:Va) (hs:c.stk=l++[u,v]) (hu:u.kind=2) (hv:v.kind=2) (hr:iM 2 ia u v=false) (hl:h.objs.length<=100) (ho:h.over=false) :
  Calls Tryz.prog 152 #[.pointer (some ⟨a.q,0,none⟩),.agg #[int i64 7,int i64 ia,int i64 ib,int i64 ic,int i64 ii,.slice Q nl q]] w fun e w'=>e=bM h/\RX 1 X wx w0 g w' (h.raise 2) qs a { c with stk:=l }:=by
 have HH:=ab H
 obtain ⟨L0,L1⟩:=bD w #[int i64 7,int i64 ia,int i64 ib,int i64 ic,int i64 ii,.slice Q nl q] #[int i64 0,int i64 0] 55 100
 have HB:Hid (Bl w ((w.alloc (py 7 ia ib ic ii Q nl q)).alloc eT)):=((Bl.refl w).alloc _).alloc _
 have gx:=ab L1
 have HK:=ab (And.intro hs (And.intro hu (And.intro hv (And.intro hr (And.intro hl ho)))))
 obtain ⟨E,hE⟩:∃E,bM h=E:=⟨_,rfl⟩
 have HE:=ab hE
 rw [hE]
 have HX:Hid (∃ch,E=.panicked ch):=by
  rw [<-hE];unfold bM;split<;>exact ⟨_,rfl⟩
 clear H hs hu hv hr hl ho L0 L1 hE
 obtain ⟨ch,rfl⟩:=HX.out
 go_enter Tryz.func152,Tryz.ntmps152
 go_wp2_with (go_at_call 192;refine (HH.out.y.useY HB.out (fun X wx w H=>lO X wx w0 g h qs a c 2 ia w H l u v HK.out.1 HK.out.2.1 HK.out.2.2.1 (by decide) HK.out.2.2.2.1 HK.out.2.2.2.2.1 HK.out.2.2.2.2.2)).mono ?_;rintro e w1 ⟨he,H1,K1⟩;rw [HE.out] at he;subst he;clear K1;replace H1:=ab H1)
 exact ⟨rfl,rfl,H1.out.x⟩
theorem zc (H:RX 1 X wx w0 g w h qs a c) (hn:c.stk=[]∨∃l v,c.stk=l++[v]/\v.kind≠1) :
  Calls Tryz.prog 152 #[.pointer (some ⟨a.q,0,none⟩),.agg #[int i64 8,int i64 ia,int i64 ib,int i64 ic,int i64 ii,.slice Q nl q]] w fun e w'=>e=aV 6 0 0/\RS 1 X wx w0 g w' h qs a c:=by
 have HH:=ab H
 obtain ⟨L0,L1⟩:=bD w #[int i64 8,int i64 ia,int i64 ib,int i64 ic,int i64 ii,.slice Q nl q] #[int i64 0,int i64 0] 55 100
 have HB:Hid (Bl w ((w.alloc (py 8 ia ib ic ii Q nl q)).alloc eT)):=((Bl.refl w).alloc _).alloc _
 have gx:=ab L1
 have HN:=ab hn
 clear H hn L0 L1
 go_enter Tryz.func152,Tryz.ntmps152
 go_wp2_with (go_at_call 89;refine (HH.out.y.useN HB.out (fun X wx w H=>dk 1 X wx w0 g h qs a c 1 w H HN.out)).mono ?_;rintro e w1 ⟨rfl,H1⟩;replace H1:=ab H1)
 exact ⟨rfl,rfl,H1.out⟩
theorem xj (H:RX 1 X wx w0 g w h qs a c) (l:List Va) (v:Va) (hs:c.stk=l++[v]) (hv:v.kind=1) :
  Calls Tryz.prog 152 #[.pointer (some ⟨a.q,0,none⟩),.agg #[int i64 8,int i64 ia,int i64 ib,int i64 ic,int i64 ii,.slice Q nl q]] w fun e w'=>e=.returned (cn ⟨2,v.n⟩)/\RX 1 X wx w0 g w' h qs a { c with stk:=l }:=by
 have HH:=ab H
 obtain ⟨L0,L1⟩:=bD w #[int i64 8,int i64 ia,int i64 ib,int i64 ic,int i64 ii,.slice Q nl q] #[int i64 0,int i64 0] 55 100
 have HB:Hid (Bl w ((w.alloc (py 8 ia ib ic ii Q nl q)).alloc eT)):=((Bl.refl w).alloc _).alloc _
 have gx:=ab L1
 have HK:=ab (And.intro hs hv)
 have HM:Hid (im v=v):=eJ (by rw [hv];decide)
 have SG:=fun w=>nU v.kind v.n w
 clear H hs hv L0 L1
 go_enter Tryz.func152,Tryz.ntmps152
 go_wp2_with (first
  | (go_at_call 89;refine (HH.out.y.useY HB.out (fun X wx w H=>cz 1 X wx w0 g h qs a c l v 1 w H HK.out.1 HK.out.2)).mono ?_;rintro e w1 ⟨he,H1,K1⟩;rw [HM.out] at he;subst he;have q1:=K1.at (Xp.new (Nat.le_succ _) (cA w _ _)) gx.out;have c4:=aK q1;have c5:=aI q1;have fz:=ay q1;clear K1;replace H1:=ab H1;replace q1:=ab q1)
  | (go_at_call 100;refine (iZ v.n _).mono ?_;rintro e w2 ⟨rfl,b2⟩;replace q1:=ab (ai b2 q1.out);clear c4 c5 fz;have c4:=aK q1.out;have c5:=aI q1.out;have fz:=ay q1.out;replace b2:=ab b2))
 refine bodyPost_ret (results_cell_row rfl _ _ (w.heap.size+1) _ _ _ _ rfl (bQ q1.out) Tryz.underlying100 rfl bK) rfl ?_
 refine ⟨rfl,cK.x (cK.set (cK.set (H1.out.bl b2.out) ?_ 0 _) ?_ 1 _)⟩<;>exact Xp.old (Xp.new (Nat.le_succ _) (cA w _ _))
theorem zd (H:RX 1 X wx w0 g w h qs a c) (hn:c.stk=[]∨∃l v,c.stk=l++[v]/\v.kind≠2) :
  Calls Tryz.prog 152 #[.pointer (some ⟨a.q,0,none⟩),.agg #[int i64 9,int i64 ia,int i64 ib,int i64 ic,int i64 ii,.slice Q nl q]] w fun e w'=>e=aV 6 0 0/\RS 1 X wx w0 g w' h qs a c:=by
 have HH:=ab H
 obtain ⟨L0,L1⟩:=bD w #[int i64 9,int i64 ia,int i64 ib,int i64 ic,int i64 ii,.slice Q nl q] #[int i64 0,int i64 0] 55 100
 have HB:Hid (Bl w ((w.alloc (py 9 ia ib ic ii Q nl q)).alloc eT)):=((Bl.refl w).alloc _).alloc _
 have gx:=ab L1
 have HN:=ab hn
 clear H hn L0 L1
 go_enter Tryz.func152,Tryz.ntmps152
 go_wp2_with (go_at_call 89;refine (HH.out.y.useN HB.out (fun X wx w H=>dk 1 X wx w0 g h qs a c 2 w H HN.out)).mono ?_;rintro e w1 ⟨rfl,H1⟩;replace H1:=ab H1)
 exact ⟨rfl,rfl,H1.out⟩
theorem xk (H:RX 1 X wx w0 g w h qs a c) (l:List Va) (v:Va) (hs:c.stk=l++[v]) (hv:v.kind=2) :
  Calls Tryz.prog 152 #[.pointer (some ⟨a.q,0,none⟩),.agg #[int i64 9,int i64 ia,int i64 ib,int i64 ic,int i64 ii,.slice Q nl q]] w fun e w'=>e=.returned (cn ⟨1,wrap32 v.n⟩)/\RX 1 X wx w0 g w' h qs a { c with stk:=l }:=by
 have HH:=ab H
 obtain ⟨L0,L1⟩:=bD w #[int i64 9,int i64 ia,int i64 ib,int i64 ic,int i64 ii,.slice Q nl q] #[int i64 0,int i64 0] 55 100
 have HB:Hid (Bl w ((w.alloc (py 9 ia ib ic ii Q nl q)).alloc eT)):=((Bl.refl w).alloc _).alloc _
 have gx:=ab L1
 have HK:=ab (And.intro hs hv)
 have HM:Hid (im v=v):=eJ (by rw [hv];decide)
 have SG:=fun w=>nU v.kind v.n w
 clear H hs hv L0 L1
 go_enter Tryz.func152,Tryz.ntmps152
 go_wp2_with (first
  | (go_at_call 89;refine (HH.out.y.useY HB.out (fun X wx w H=>cz 1 X wx w0 g h qs a c l v 2 w H HK.out.1 HK.out.2)).mono ?_;rintro e w1 ⟨he,H1,K1⟩;rw [HM.out] at he;subst he;have q1:=K1.at (Xp.new (Nat.le_succ _) (cA w _ _)) gx.out;have c4:=aK q1;have c5:=aI q1;have fz:=ay q1;clear K1;replace H1:=ab H1;replace q1:=ab q1)
  | (go_at_call 102;refine (kF v.n _).mono ?_;rintro e w2 ⟨rfl,hw⟩;rw [hw];clear hw w2)
  | (go_at_call 101;refine (jl (wrap32 v.n) _).mono ?_;rintro e w2 ⟨rfl,b2⟩;replace q1:=ab (ai b2 q1.out);clear c4 c5 fz;have c4:=aK q1.out;have c5:=aI q1.out;have fz:=ay q1.out;replace b2:=ab b2))
 refine bodyPost_ret (results_cell_row rfl _ _ (w.heap.size+1) _ _ _ _ rfl (bQ q1.out) Tryz.underlying100 rfl bK) rfl ?_
 refine ⟨rfl,cK.x (cK.set (cK.set (H1.out.bl b2.out) ?_ 0 _) ?_ 1 _)⟩<;>exact Xp.old (Xp.new (Nat.le_succ _) (cA w _ _))
theorem xl (H:RX 1 X wx w0 g w h qs a c) (hn:∀l u v,c.stk=l++[u,v]->u.kind=2->v.kind=2->False) :
  Calls Tryz.prog 152 #[.pointer (some ⟨a.q,0,none⟩),.agg #[int i64 10,int i64 ia,int i64 ib,int i64 ic,int i64 ii,.slice Q nl q]] w fun e w'=>e=aV 6 0 0/\RS 1 X wx w0 g w' h qs a c:=by
 have HH:=ab H
 obtain ⟨L0,L1⟩:=bD w #[int i64 10,int i64 ia,int i64 ib,int i64 ic,int i64 ii,.slice Q nl q] #[int i64 0,int i64 0] 55 100
 have HB:Hid (Bl w ((w.alloc (py 10 ia ib ic ii Q nl q)).alloc eT)):=((Bl.refl w).alloc _).alloc _
 have gx:=ab L1
 have HN:=ab hn
 clear H hn L0 L1
 go_enter Tryz.func152,Tryz.ntmps152
 go_wp2_with (go_at_call 193;refine (HH.out.y.useN HB.out (fun X wx w H=>qx 1 X wx w0 g h qs a c 2 w H HN.out)).mono ?_;rintro e w1 ⟨rfl,H1⟩;replace H1:=ab H1)
 exact ⟨rfl,rfl,H1.out⟩
theorem tP (H:RX 1 X wx w0 g w h qs a c) (l:List Va) (u v:Va) (hs:c.stk=l++[u,v]) (hu:u.kind=2) (hv:v.kind=2) :
  Calls Tryz.prog 152 #[.pointer (some ⟨a.q,0,none⟩),.agg #[int i64 10,int i64 ia,int i64 ib,int i64 ic,int i64 ii,.slice Q nl q]] w fun e w'=>e=.returned (cn ⟨1,mf u.n v.n⟩)/\RX 1 X wx w0 g w' h qs a { c with stk:=l }:=by
 have HH:=ab H
 obtain ⟨L0,L1⟩:=bD w #[int i64 10,int i64 ia,int i64 ib,int i64 ic,int i64 ii,.slice Q nl q] #[int i64 0,int i64 0] 55 100
 have HB:Hid (Bl w ((w.alloc (py 10 ia ib ic ii Q nl q)).alloc eT)):=((Bl.refl w).alloc _).alloc _
 have gx:=ab L1
 have HK:=ab (And.intro hs (And.intro hu hv))
 have HM:Hid (im u=u/\im v=v):=⟨eJ (by rw [hu];decide),eJ (by rw [hv];decide)⟩
 clear H hs hu hv L0 L1
 go_enter Tryz.func152,Tryz.ntmps152
 go_wp2_with (first
  | (go_at_call 193;refine (HH.out.y.useY HB.out (fun X wx w H=>lA 1 X wx w0 g h qs a c l u v 2 w H HK.out.1 HK.out.2.1 HK.out.2.2)).mono ?_;rintro e w1 ⟨he,H1,K1⟩;rw [HM.out.1,HM.out.2] at he;subst he;have q1:=K1.at (Xp.new (Nat.le_succ _) (cA w _ _)) gx.out;have c4:=aK q1;have c5:=aI q1;have fz:=ay q1;clear K1;replace H1:=ab H1;replace q1:=ab q1;have YL:=af q1.out)
  | (go_at_call 194;refine (Hu u.n v.n _).mono ?_;rintro e w2 ⟨rfl,hw⟩;rw [hw];clear hw w2)
  | (go_at_call 101;refine (jl (mf u.n v.n) _).mono ?_;rintro e w2 ⟨rfl,b2⟩;replace q1:=ab (ai b2 (ai (((Bl.refl w1).alloc (dL u)).alloc (dL v)) q1.out));clear c4 c5 fz;have c4:=aK q1.out;have c5:=aI q1.out;have fz:=ay q1.out;replace b2:=ab b2))
 refine bodyPost_ret (results_cell_row rfl _ _ (w.heap.size+1) _ _ _ _ rfl (bQ q1.out) Tryz.underlying100 rfl bK) rfl ?_
 refine ⟨rfl,cK.x (cK.set (cK.set ((H1.out.bl (((Bl.refl w1).alloc (dL u)).alloc (dL v))).bl b2.out) ?_ 0 _) ?_ 1 _)⟩<;>exact Xp.old (Xp.old (Xp.new (Nat.le_succ _) (cA w _ _)))
end
end
section
open Go.Maps (Keyed has)
theorem dx {d d':jE} {e:Ending} (e1:d.h=d'.h) (e2:d.h.stops=true) (q:bT X wx w0 g qs a c d e w'):bT X wx w0 g qs a c d' e w' :=
 ⟨by rw [q.how];unfold js;rw [e1],fun _=>e1▸q.stop e2,fun z=>by rw [<-e1,e2] at z;exact absurd z (by decide)⟩
theorem aY (hs:h.stops=false) (k:Int):(h.fin k).stops=true:=by simp [Hp.stops,(kq (ba hs) k).1]
theorem ix (hs:h.stops=false) (k:Int):(h.raise k).stops=true:=by
 have ho:=ba hs
 cases hf:h.full with
 | true=>rw [qW k ho hf];exact aY hs 4
 | false=>rw [sQ k ho hf];simp [Hp.stops]
theorem ft {a b:Va} {i:In} (ho:h.over=true):givesH h a b i=h:=by unfold givesH;rw [if_pos ho]
section
variable (X:Nat->Prop) (wx w0:World) (g:Mg) (h:Hp) (qs:List Nat) (a:Mc) (c:aH) (ia ib ic ii:Int) (args:List Int) (Q:Option Addr) (nl q:Nat) (w:World)
theorem Ge (H:RX 1 X wx w0 g w h qs a c) (hs:h.stops=false) (hl:c.stk.length<=1000) (iD:h.objs.length<=100) :
  Calls Tryz.prog 94 #[.pointer (some ⟨a.q,0,none⟩),.agg #[int i64 6,int i64 ia,int i64 ib,int i64 ic,int i64 ii,.slice Q nl q]] w fun e w'=>bT X wx w0 g qs a c (aM h c ⟨6,ia,ib,ic,ii,args⟩) e w':=by
 have ho:=ba hs
 have HH:=ab H
 have HS:=ab hs
 have HB:Hid (Bl w (w.alloc (.cells #[int i64 6,int i64 ia,int i64 ib,int i64 ic,int i64 ii,.slice Q nl q] 55))):=(Bl.refl w).alloc _
 have bad:(∀l u v,c.stk=l++[u,v]->u.kind=1->v.kind=1->False)->Calls Tryz.prog 94 #[.pointer (some ⟨a.q,0,none⟩),.agg #[int i64 6,int i64 ia,int i64 ib,int i64 ic,int i64 ii,.slice Q nl q]] w fun e w'=>bT X wx w0 g qs a c ⟨h.fin 6,c,0⟩ e w':=fun hn=>by
  have HN:=ab hn
  clear H hs hn
  go_enter Tryz.func94,Tryz.ntmps94
  go_wp2_with (go_at_call 152;refine (HH.out.y.useN HB.out (fun X wx w H=>za X wx w0 g h qs a c ia ib ic ii Q nl q w H HN.out)).mono ?_;rintro e w1 ⟨rfl,H1⟩;replace H1:=ab H1)
  exact ⟨rfl,cY (s:=0) (ba HS.out) rfl H1.out.less⟩
 have hd:aM h c ⟨6,ia,ib,ic,ii,args⟩=b8 h c ⟨6,ia,ib,ic,ii,args⟩:=rfl
 have em:aJ 6=2:=by decide
 rw [hd]
 unfold b8
 dsimp only
 rw [em]
 by_cases hex:∃l u v,c.stk=l++[u,v]
 ·obtain ⟨l,u,v,h0⟩:=hex
  obtain ⟨h1,h2,h3,h4⟩:=pJ h0
  rw [dJ h1,h2,h3,h4]
  by_cases hk:u.kind=1/\v.kind=1
  ·have jt:cv u v 1=true:=by unfold cv;simp [hk.1,hk.2]
   have kr:h.mustB (cv u v 1)=true:=by unfold Hp.mustB;rw [jt,ho];rfl
   have eg:givesH h u v ⟨6,ia,ib,ic,ii,args⟩=if iM 1 ia u v=true then h else h.raise 2:=by
    unfold givesH
    rw [if_neg (by rw [ho];decide)]
    simp [Hp.reckH,kr]
   have ev:aG h u v ⟨6,ia,ib,ic,ii,args⟩=⟨1,j7 1 ia u v⟩:=by
    unfold aG
    rw [if_neg (by rw [ho];decide)]
    simp [Hp.reckV,kr]
   rw [eg,ev]
   cases hr:iM 1 ia u v with
   | true =>
    rw [if_pos rfl,if_neg (by rw [hs];decide)]
    obtain ⟨N,hN⟩:∃N,j7 1 ia u v=N:=⟨_,rfl⟩
    rw [hN]
    have HR:Hid (∀X wx w,RX 1 X wx w0 g w h qs a c->Calls Tryz.prog 152 #[.pointer (some ⟨a.q,0,none⟩),.agg #[int i64 6,int i64 ia,int i64 ib,int i64 ic,int i64 ii,.slice Q nl q]] w fun e w'=>e=.returned (cn ⟨1,N⟩)/\RX 1 X wx w0 g w' h qs a { c with stk:=l }):=fun X wx w H=>hN▸xg X wx w0 g h qs a c ia ib ic ii Q nl q w H l u v h0 hk.1 hk.2 hr
    obtain ⟨E,hE⟩:∃E,(if (aQ (({ c with stk:=l }).stk++[(⟨1,N⟩:Va)]):Int)<=({ c with stk:=l }).m.stack then Ending.returned (.tuple #[]) else aV 6 0 0)=E:=⟨_,rfl⟩
    have HP:Hid (∀X wx w,RX 1 X wx w0 g w h qs a ({ c with stk:=l })->Calls Tryz.prog 95 #[.pointer (some ⟨a.q,0,none⟩),cn (im (⟨1,N⟩:Va))] w fun e w2=>e=E/\RX 1 X wx w0 g w2 h qs a (({ c with stk:=l }).put (⟨1,N⟩:Va))):=fun X wx w H=>hE▸cM 1 X wx w0 g h qs a ({ c with stk:=l }) (⟨1,N⟩:Va) w H (show (1:Int)<=1/\(1:Int)<=3 from by decide) (by have e:c.stk.length=l.length+2:=(by rw [h0];simp);show l.length<=1000;omega)
    have HE:Hid (∀w',RX 1 X wx w0 g w' h qs a (({ c with stk:=l }).put (⟨1,N⟩:Va))->bT X wx w0 g qs a c ⟨(h).putH ({ c with stk:=l }) (⟨1,N⟩:Va),({ c with stk:=l }).put (⟨1,N⟩:Va),c.pc+1⟩ E w'):=fun w' H=>eO hs rfl ⟨rfl,rfl⟩ hE.symm H.less
    have nT:E=.returned (.tuple #[])∨E=aV 6 0 0:=by rw [<-hE];split;exact Or.inl rfl;exact Or.inr rfl
    clear hE
    have xf:Hid (im (⟨1,N⟩:Va)=⟨1,N⟩):=eJ (show (1:Int)≠3 by decide)
    rw [xf.out] at HP
    clear H hs hd bad em h0 h1 h2 h3 h4 hk jt kr eg ev hr hN
    rcases nT with rfl|rfl
    ·go_enter Tryz.func94,Tryz.ntmps94
     go_wp2_with (first
      | (go_at_call 152;refine (HH.out.y.useY HB.out HR.out).mono ?_;rintro e w1 ⟨rfl,H1,K1⟩;clear K1;replace H1:=ab H1)
      | (go_at_call 95;refine (H1.out.useY (Bl.refl _) HP.out).mono ?_;rintro e w2 ⟨rfl,H2,K2⟩;clear K2;replace H2:=ab H2))
     go_end0
     exact HE.out _ H2.out.x
    ·go_enter Tryz.func94,Tryz.ntmps94
     go_wp2_with (first
      | (go_at_call 152;refine (HH.out.y.useY HB.out HR.out).mono ?_;rintro e w1 ⟨rfl,H1,K1⟩;clear K1;replace H1:=ab H1)
      | (go_at_call 95;refine (H1.out.useY (Bl.refl _) HP.out).mono ?_;rintro e w2 ⟨rfl,H2,K2⟩;clear K2;replace H2:=ab H2))
     exact ⟨rfl,HE.out _ H2.out.x⟩
   | false =>
    have ef:(if false=true then h else h.raise 2)=h.raise 2:=rfl
    rw [ef,if_pos (ix hs 2)]
    clear ef
    obtain ⟨E,hE⟩:∃E,bM h=E:=⟨_,rfl⟩
    have HX:Hid (∃ch,E=.panicked ch):=by
     rw [<-hE];unfold bM;split<;>exact ⟨_,rfl⟩
    have HR:Hid (∀X wx w,RX 1 X wx w0 g w h qs a c->Calls Tryz.prog 152 #[.pointer (some ⟨a.q,0,none⟩),.agg #[int i64 6,int i64 ia,int i64 ib,int i64 ic,int i64 ii,.slice Q nl q]] w fun e w'=>e=E/\RX 1 X wx w0 g w' (h.raise 2) qs a { c with stk:=l }):=fun X wx w H=>hE▸qZ X wx w0 g h qs a c ia ib ic ii Q nl q w H l u v h0 hk.1 hk.2 hr iD ho
    have HD:Hid (∀w',RS 0 X wx w0 g w' (h.raise 2) qs a c->bT X wx w0 g qs a c ⟨h.raise 2,{ c with stk:=l },c.pc+1⟩ E w'):=fun w' H=>hE▸jb hs rfl H
    clear H hs hd bad em h0 h1 h2 h3 h4 hk jt kr eg ev hr hE
    obtain ⟨ch,rfl⟩:=HX.out
    go_enter Tryz.func94,Tryz.ntmps94
    go_wp2_with (go_at_call 152;refine (HH.out.y.useY HB.out HR.out).mono ?_;rintro e w1 ⟨rfl,H1,K1⟩;clear K1;replace H1:=ab H1)
    exact ⟨rfl,HD.out _ (H1.out.x.less.rs.of rfl ⟨rfl,rfl⟩)⟩
  ·have jt:cv u v 1=false:=by
    unfold cv
    rw [Bool.and_eq_false_iff]
    by_cases q1:u.kind=1
    ·right;exact decide_eq_false (fun q2=>hk ⟨q1,q2⟩)
    ·left;exact decide_eq_false q1
   have kr:h.mustB (cv u v 1)=false:=by unfold Hp.mustB;rw [jt];rfl
   have eg:givesH h u v ⟨6,ia,ib,ic,ii,args⟩=h.fin 6:=by
    unfold givesH
    rw [if_neg (by rw [ho];decide)]
    first
     | (simp [Hp.reckH,Hp.must,kr,jt];done)
     | (have hx:h.reckH u v 1 ia=h.fin 6:=(by unfold Hp.reckH Hp.must;rw [if_neg (by rw [kr];decide),if_neg (by rw [jt];decide)]);simpa using hx)
   rw [eg,if_pos (aY hs 6)]
   exact (bad (fun l' u' v' e1 e2 e3=>by
    rw [h0] at e1
    have:=List.append_inj_right' e1 rfl
    simp at this
    obtain ⟨rfl,rfl⟩:=this
    exact hk ⟨e2,e3⟩)).mono fun e w' q=>dx (d:=⟨h.fin 6,c,0⟩) rfl (aY hs 6) q
 ·have ID:c.has 2=false:=mR (fun l u v e=>hex ⟨l,u,v,e⟩)
  rw [cZ ID,ft (kq ho 6).1,if_pos (aY hs 6)]
  exact (bad (fun l u v e1 _ _=>hex ⟨l,u,v,e1⟩)).mono fun e w' q=>dx (d:=⟨h.fin 6,c,0⟩) rfl (aY hs 6) q
theorem Gf (H:RX 1 X wx w0 g w h qs a c) (hs:h.stops=false) (hl:c.stk.length<=1000) (iD:h.objs.length<=100) :
  Calls Tryz.prog 94 #[.pointer (some ⟨a.q,0,none⟩),.agg #[int i64 7,int i64 ia,int i64 ib,int i64 ic,int i64 ii,.slice Q nl q]] w fun e w'=>bT X wx w0 g qs a c (aM h c ⟨7,ia,ib,ic,ii,args⟩) e w':=by
 have ho:=ba hs
 have HH:=ab H
 have HS:=ab hs
 have HB:Hid (Bl w (w.alloc (.cells #[int i64 7,int i64 ia,int i64 ib,int i64 ic,int i64 ii,.slice Q nl q] 55))):=(Bl.refl w).alloc _
 have bad:(∀l u v,c.stk=l++[u,v]->u.kind=2->v.kind=2->False)->Calls Tryz.prog 94 #[.pointer (some ⟨a.q,0,none⟩),.agg #[int i64 7,int i64 ia,int i64 ib,int i64 ic,int i64 ii,.slice Q nl q]] w fun e w'=>bT X wx w0 g qs a c ⟨h.fin 6,c,0⟩ e w':=fun hn=>by
  have HN:=ab hn
  clear H hs hn
  go_enter Tryz.func94,Tryz.ntmps94
  go_wp2_with (go_at_call 152;refine (HH.out.y.useN HB.out (fun X wx w H=>zb X wx w0 g h qs a c ia ib ic ii Q nl q w H HN.out)).mono ?_;rintro e w1 ⟨rfl,H1⟩;replace H1:=ab H1)
  exact ⟨rfl,cY (s:=0) (ba HS.out) rfl H1.out.less⟩
 have hd:aM h c ⟨7,ia,ib,ic,ii,args⟩=b8 h c ⟨7,ia,ib,ic,ii,args⟩:=rfl
 have em:aJ 7=2:=by decide
 rw [hd]
 unfold b8
 dsimp only
 rw [em]
 by_cases hex:∃l u v,c.stk=l++[u,v]
 ·obtain ⟨l,u,v,h0⟩:=hex
  obtain ⟨h1,h2,h3,h4⟩:=pJ h0
  rw [dJ h1,h2,h3,h4]
  by_cases hk:u.kind=2/\v.kind=2
  ·have jt:cv u v 2=true:=by unfold cv;simp [hk.1,hk.2]
   have kr:h.mustB (cv u v 2)=true:=by unfold Hp.mustB;rw [jt,ho];rfl
   have eg:givesH h u v ⟨7,ia,ib,ic,ii,args⟩=if iM 2 ia u v=true then h else h.raise 2:=by
    unfold givesH
    rw [if_neg (by rw [ho];decide)]
    simp [Hp.reckH,kr]
   have ev:aG h u v ⟨7,ia,ib,ic,ii,args⟩=⟨2,j7 2 ia u v⟩:=by
    unfold aG
    rw [if_neg (by rw [ho];decide)]
    simp [Hp.reckV,kr]
   rw [eg,ev]
   cases hr:iM 2 ia u v with
   | true =>
    rw [if_pos rfl,if_neg (by rw [hs];decide)]
    obtain ⟨N,hN⟩:∃N,j7 2 ia u v=N:=⟨_,rfl⟩
    rw [hN]
    have HR:Hid (∀X wx w,RX 1 X wx w0 g w h qs a c->Calls Tryz.prog 152 #[.pointer (some ⟨a.q,0,none⟩),.agg #[int i64 7,int i64 ia,int i64 ib,int i64 ic,int i64 ii,.slice Q nl q]] w fun e w'=>e=.returned (cn ⟨2,N⟩)/\RX 1 X wx w0 g w' h qs a { c with stk:=l }):=fun X wx w H=>hN▸xh X wx w0 g h qs a c ia ib ic ii Q nl q w H l u v h0 hk.1 hk.2 hr
    obtain ⟨E,hE⟩:∃E,(if (aQ (({ c with stk:=l }).stk++[(⟨2,N⟩:Va)]):Int)<=({ c with stk:=l }).m.stack then Ending.returned (.tuple #[]) else aV 6 0 0)=E:=⟨_,rfl⟩
    have HP:Hid (∀X wx w,RX 1 X wx w0 g w h qs a ({ c with stk:=l })->Calls Tryz.prog 95 #[.pointer (some ⟨a.q,0,none⟩),cn (im (⟨2,N⟩:Va))] w fun e w2=>e=E/\RX 1 X wx w0 g w2 h qs a (({ c with stk:=l }).put (⟨2,N⟩:Va))):=fun X wx w H=>hE▸cM 1 X wx w0 g h qs a ({ c with stk:=l }) (⟨2,N⟩:Va) w H (show (1:Int)<=2/\(2:Int)<=3 from by decide) (by have e:c.stk.length=l.length+2:=(by rw [h0];simp);show l.length<=1000;omega)
    have HE:Hid (∀w',RX 1 X wx w0 g w' h qs a (({ c with stk:=l }).put (⟨2,N⟩:Va))->bT X wx w0 g qs a c ⟨(h).putH ({ c with stk:=l }) (⟨2,N⟩:Va),({ c with stk:=l }).put (⟨2,N⟩:Va),c.pc+1⟩ E w'):=fun w' H=>eO hs rfl ⟨rfl,rfl⟩ hE.symm H.less
    have nT:E=.returned (.tuple #[])∨E=aV 6 0 0:=by rw [<-hE];split;exact Or.inl rfl;exact Or.inr rfl
    clear hE
    have xf:Hid (im (⟨2,N⟩:Va)=⟨2,N⟩):=eJ (show (2:Int)≠3 by decide)
    rw [xf.out] at HP
    clear H hs hd bad em h0 h1 h2 h3 h4 hk jt kr eg ev hr hN
    rcases nT with rfl|rfl
    ·go_enter Tryz.func94,Tryz.ntmps94
     go_wp2_with (first
      | (go_at_call 152;refine (HH.out.y.useY HB.out HR.out).mono ?_;rintro e w1 ⟨rfl,H1,K1⟩;clear K1;replace H1:=ab H1)
      | (go_at_call 95;refine (H1.out.useY (Bl.refl _) HP.out).mono ?_;rintro e w2 ⟨rfl,H2,K2⟩;clear K2;replace H2:=ab H2))
     go_end0
     exact HE.out _ H2.out.x
    ·go_enter Tryz.func94,Tryz.ntmps94
     go_wp2_with (first
      | (go_at_call 152;refine (HH.out.y.useY HB.out HR.out).mono ?_;rintro e w1 ⟨rfl,H1,K1⟩;clear K1;replace H1:=ab H1)
      | (go_at_call 95;refine (H1.out.useY (Bl.refl _) HP.out).mono ?_;rintro e w2 ⟨rfl,H2,K2⟩;clear K2;replace H2:=ab H2))
     exact ⟨rfl,HE.out _ H2.out.x⟩
   | false =>
    have ef:(if false=true then h else h.raise 2)=h.raise 2:=rfl
    rw [ef,if_pos (ix hs 2)]
    clear ef
    obtain ⟨E,hE⟩:∃E,bM h=E:=⟨_,rfl⟩
    have HX:Hid (∃ch,E=.panicked ch):=by
     rw [<-hE];unfold bM;split<;>exact ⟨_,rfl⟩
    have HR:Hid (∀X wx w,RX 1 X wx w0 g w h qs a c->Calls Tryz.prog 152 #[.pointer (some ⟨a.q,0,none⟩),.agg #[int i64 7,int i64 ia,int i64 ib,int i64 ic,int i64 ii,.slice Q nl q]] w fun e w'=>e=E/\RX 1 X wx w0 g w' (h.raise 2) qs a { c with stk:=l }):=fun X wx w H=>hE▸qu X wx w0 g h qs a c ia ib ic ii Q nl q w H l u v h0 hk.1 hk.2 hr iD ho
    have HD:Hid (∀w',RS 0 X wx w0 g w' (h.raise 2) qs a c->bT X wx w0 g qs a c ⟨h.raise 2,{ c with stk:=l },c.pc+1⟩ E w'):=fun w' H=>hE▸jb hs rfl H
    clear H hs hd bad em h0 h1 h2 h3 h4 hk jt kr eg ev hr hE
    obtain ⟨ch,rfl⟩:=HX.out
    go_enter Tryz.func94,Tryz.ntmps94
    go_wp2_with (go_at_call 152;refine (HH.out.y.useY HB.out HR.out).mono ?_;rintro e w1 ⟨rfl,H1,K1⟩;clear K1;replace H1:=ab H1)
    exact ⟨rfl,HD.out _ (H1.out.x.less.rs.of rfl ⟨rfl,rfl⟩)⟩
  ·have jt:cv u v 2=false:=by
    unfold cv
    rw [Bool.and_eq_false_iff]
    by_cases q1:u.kind=2
    ·right;exact decide_eq_false (fun q2=>hk ⟨q1,q2⟩)
    ·left;exact decide_eq_false q1
   have kr:h.mustB (cv u v 2)=false:=by unfold Hp.mustB;rw [jt];rfl
   have eg:givesH h u v ⟨7,ia,ib,ic,ii,args⟩=h.fin 6:=by
    unfold givesH
    rw [if_neg (by rw [ho];decide)]
    first
     | (simp [Hp.reckH,Hp.must,kr,jt];done)
     | (have hx:h.reckH u v 2 ia=h.fin 6:=(by unfold Hp.reckH Hp.must;rw [if_neg (by rw [kr];decide),if_neg (by rw [jt];decide)]);simpa using hx)
   rw [eg,if_pos (aY hs 6)]
   exact (bad (fun l' u' v' e1 e2 e3=>by
    rw [h0] at e1
    have:=List.append_inj_right' e1 rfl
    simp at this
    obtain ⟨rfl,rfl⟩:=this
    exact hk ⟨e2,e3⟩)).mono fun e w' q=>dx (d:=⟨h.fin 6,c,0⟩) rfl (aY hs 6) q
 ·have ID:c.has 2=false:=mR (fun l u v e=>hex ⟨l,u,v,e⟩)
  rw [cZ ID,ft (kq ho 6).1,if_pos (aY hs 6)]
  exact (bad (fun l u v e1 _ _=>hex ⟨l,u,v,e1⟩)).mono fun e w' q=>dx (d:=⟨h.fin 6,c,0⟩) rfl (aY hs 6) q
theorem CM (H:RX 1 X wx w0 g w h qs a c) (hs:h.stops=false) (hl:c.stk.length<=1000) (iD:h.objs.length<=100) :
  Calls Tryz.prog 94 #[.pointer (some ⟨a.q,0,none⟩),.agg #[int i64 10,int i64 ia,int i64 ib,int i64 ic,int i64 ii,.slice Q nl q]] w fun e w'=>bT X wx w0 g qs a c (aM h c ⟨10,ia,ib,ic,ii,args⟩) e w':=by
 have ho:=ba hs
 have HH:=ab H
 have HS:=ab hs
 have HB:Hid (Bl w (w.alloc (.cells #[int i64 10,int i64 ia,int i64 ib,int i64 ic,int i64 ii,.slice Q nl q] 55))):=(Bl.refl w).alloc _
 have bad:(∀l u v,c.stk=l++[u,v]->u.kind=2->v.kind=2->False)->Calls Tryz.prog 94 #[.pointer (some ⟨a.q,0,none⟩),.agg #[int i64 10,int i64 ia,int i64 ib,int i64 ic,int i64 ii,.slice Q nl q]] w fun e w'=>bT X wx w0 g qs a c ⟨h.fin 6,c,0⟩ e w':=fun hn=>by
  have HN:=ab hn
  clear H hs hn
  go_enter Tryz.func94,Tryz.ntmps94
  go_wp2_with (go_at_call 152;refine (HH.out.y.useN HB.out (fun X wx w H=>xl X wx w0 g h qs a c ia ib ic ii Q nl q w H HN.out)).mono ?_;rintro e w1 ⟨rfl,H1⟩;replace H1:=ab H1)
  exact ⟨rfl,cY (s:=0) (ba HS.out) rfl H1.out.less⟩
 have hd:aM h c ⟨10,ia,ib,ic,ii,args⟩=b8 h c ⟨10,ia,ib,ic,ii,args⟩:=rfl
 have em:aJ 10=2:=by decide
 rw [hd]
 unfold b8
 dsimp only
 rw [em]
 by_cases hex:∃l u v,c.stk=l++[u,v]
 ·obtain ⟨l,u,v,h0⟩:=hex
  obtain ⟨h1,h2,h3,h4⟩:=pJ h0
  rw [dJ h1,h2,h3,h4]
  by_cases hk:u.kind=2/\v.kind=2
  ·have jt:cv u v 2=true:=by unfold cv;simp [hk.1,hk.2]
   have kr:h.mustB (cv u v 2)=true:=by unfold Hp.mustB;rw [jt,ho];rfl
   have eg:givesH h u v ⟨10,ia,ib,ic,ii,args⟩=h:=by
    unfold givesH
    rw [if_neg (by rw [ho];decide)]
    simp [Hp.must,jt]
   have ev:aG h u v ⟨10,ia,ib,ic,ii,args⟩=⟨1,mf u.n v.n⟩:=by
    unfold aG
    rw [if_neg (by rw [ho];decide)]
    simp
   rw [eg,ev]
   cases hr:true with
   | true =>
    rw [if_neg (by rw [hs];decide)]
    obtain ⟨N,hN⟩:∃N,mf u.n v.n=N:=⟨_,rfl⟩
    rw [hN]
    have HR:Hid (∀X wx w,RX 1 X wx w0 g w h qs a c->Calls Tryz.prog 152 #[.pointer (some ⟨a.q,0,none⟩),.agg #[int i64 10,int i64 ia,int i64 ib,int i64 ic,int i64 ii,.slice Q nl q]] w fun e w'=>e=.returned (cn ⟨1,N⟩)/\RX 1 X wx w0 g w' h qs a { c with stk:=l }):=fun X wx w H=>hN▸tP X wx w0 g h qs a c ia ib ic ii Q nl q w H l u v h0 hk.1 hk.2
    obtain ⟨E,hE⟩:∃E,(if (aQ (({ c with stk:=l }).stk++[(⟨1,N⟩:Va)]):Int)<=({ c with stk:=l }).m.stack then Ending.returned (.tuple #[]) else aV 6 0 0)=E:=⟨_,rfl⟩
    have HP:Hid (∀X wx w,RX 1 X wx w0 g w h qs a ({ c with stk:=l })->Calls Tryz.prog 95 #[.pointer (some ⟨a.q,0,none⟩),cn (im (⟨1,N⟩:Va))] w fun e w2=>e=E/\RX 1 X wx w0 g w2 h qs a (({ c with stk:=l }).put (⟨1,N⟩:Va))):=fun X wx w H=>hE▸cM 1 X wx w0 g h qs a ({ c with stk:=l }) (⟨1,N⟩:Va) w H (show (1:Int)<=1/\(1:Int)<=3 from by decide) (by have e:c.stk.length=l.length+2:=(by rw [h0];simp);show l.length<=1000;omega)
    have HE:Hid (∀w',RX 1 X wx w0 g w' h qs a (({ c with stk:=l }).put (⟨1,N⟩:Va))->bT X wx w0 g qs a c ⟨(h).putH ({ c with stk:=l }) (⟨1,N⟩:Va),({ c with stk:=l }).put (⟨1,N⟩:Va),c.pc+1⟩ E w'):=fun w' H=>eO hs rfl ⟨rfl,rfl⟩ hE.symm H.less
    have nT:E=.returned (.tuple #[])∨E=aV 6 0 0:=by rw [<-hE];split;exact Or.inl rfl;exact Or.inr rfl
    clear hE
    have xf:Hid (im (⟨1,N⟩:Va)=⟨1,N⟩):=eJ (show (1:Int)≠3 by decide)
    rw [xf.out] at HP
    clear H hs hd bad em h0 h1 h2 h3 h4 hk jt kr eg ev hr hN
    rcases nT with rfl|rfl
    ·go_enter Tryz.func94,Tryz.ntmps94
     go_wp2_with (first
      | (go_at_call 152;refine (HH.out.y.useY HB.out HR.out).mono ?_;rintro e w1 ⟨rfl,H1,K1⟩;clear K1;replace H1:=ab H1)
      | (go_at_call 95;refine (H1.out.useY (Bl.refl _) HP.out).mono ?_;rintro e w2 ⟨rfl,H2,K2⟩;clear K2;replace H2:=ab H2))
     go_end0
     exact HE.out _ H2.out.x
    ·go_enter Tryz.func94,Tryz.ntmps94
     go_wp2_with (first
      | (go_at_call 152;refine (HH.out.y.useY HB.out HR.out).mono ?_;rintro e w1 ⟨rfl,H1,K1⟩;clear K1;replace H1:=ab H1)
      | (go_at_call 95;refine (H1.out.useY (Bl.refl _) HP.out).mono ?_;rintro e w2 ⟨rfl,H2,K2⟩;clear K2;replace H2:=ab H2))
     exact ⟨rfl,HE.out _ H2.out.x⟩
   | false=>exact absurd hr (by decide)
  ·have jt:cv u v 2=false:=by
    unfold cv
    rw [Bool.and_eq_false_iff]
    by_cases q1:u.kind=2
    ·right;exact decide_eq_false (fun q2=>hk ⟨q1,q2⟩)
    ·left;exact decide_eq_false q1
   have kr:h.mustB (cv u v 2)=false:=by unfold Hp.mustB;rw [jt];rfl
   have eg:givesH h u v ⟨10,ia,ib,ic,ii,args⟩=h.fin 6:=by
    unfold givesH
    rw [if_neg (by rw [ho];decide)]
    first
     | (simp [Hp.reckH,Hp.must,kr,jt];done)
     | (have hx:h.reckH u v 2 ia=h.fin 6:=(by unfold Hp.reckH Hp.must;rw [if_neg (by rw [kr];decide),if_neg (by rw [jt];decide)]);simpa using hx)
   rw [eg,if_pos (aY hs 6)]
   exact (bad (fun l' u' v' e1 e2 e3=>by
    rw [h0] at e1
    have:=List.append_inj_right' e1 rfl
    simp at this
    obtain ⟨rfl,rfl⟩:=this
    exact hk ⟨e2,e3⟩)).mono fun e w' q=>dx (d:=⟨h.fin 6,c,0⟩) rfl (aY hs 6) q
 ·have ID:c.has 2=false:=mR (fun l u v e=>hex ⟨l,u,v,e⟩)
  rw [cZ ID,ft (kq ho 6).1,if_pos (aY hs 6)]
  exact (bad (fun l u v e1 _ _=>hex ⟨l,u,v,e1⟩)).mono fun e w' q=>dx (d:=⟨h.fin 6,c,0⟩) rfl (aY hs 6) q
end
end
section
open Go.Maps (Keyed has)
section
variable (X:Nat->Prop) (wx w0:World) (g:Mg) (h:Hp) (qs:List Nat) (a:Mc) (c:aH) (ia ib ic ii:Int) (args:List Int) (Q:Option Addr) (nl q:Nat) (w:World)
theorem Gg (H:RX 1 X wx w0 g w h qs a c) (hs:h.stops=false) (hl:c.stk.length<=1000) :
  Calls Tryz.prog 94 #[.pointer (some ⟨a.q,0,none⟩),.agg #[int i64 8,int i64 ia,int i64 ib,int i64 ic,int i64 ii,.slice Q nl q]] w fun e w'=>bT X wx w0 g qs a c (aM h c ⟨8,ia,ib,ic,ii,args⟩) e w':=by
 have ho:=ba hs
 have HH:=ab H
 have HS:=ab hs
 have HB:Hid (Bl w (w.alloc (.cells #[int i64 8,int i64 ia,int i64 ib,int i64 ic,int i64 ii,.slice Q nl q] 55))):=(Bl.refl w).alloc _
 have bad:(c.stk=[]∨∃l v,c.stk=l++[v]/\v.kind≠1)->Calls Tryz.prog 94 #[.pointer (some ⟨a.q,0,none⟩),.agg #[int i64 8,int i64 ia,int i64 ib,int i64 ic,int i64 ii,.slice Q nl q]] w fun e w'=>bT X wx w0 g qs a c ⟨h.fin 6,c,0⟩ e w':=fun hn=>by
  have HN:=ab hn
  clear H hs hn
  go_enter Tryz.func94,Tryz.ntmps94
  go_wp2_with (go_at_call 152;refine (HH.out.y.useN HB.out (fun X wx w H=>zc X wx w0 g h qs a c ia ib ic ii Q nl q w H HN.out)).mono ?_;rintro e w1 ⟨rfl,H1⟩;replace H1:=ab H1)
  exact ⟨rfl,cY (s:=0) (ba HS.out) rfl H1.out.less⟩
 have hd:aM h c ⟨8,ia,ib,ic,ii,args⟩=b8 h c ⟨8,ia,ib,ic,ii,args⟩:=rfl
 have em:aJ 8=1:=by decide
 rw [hd]
 unfold b8
 dsimp only
 rw [em]
 rcases gB (c:=c) with h0|⟨l,v,h0⟩
 ·rw [cZ (fE h0),ft (kq ho 6).1,if_pos (aY hs 6)]
  exact (bad (Or.inl h0)).mono fun e w' q=>dx (d:=⟨h.fin 6,c,0⟩) rfl (aY hs 6) q
 ·obtain ⟨h1,h2,h4⟩:=fF h0
  rw [dJ h1,h2,h4]
  generalize nth ag (c.top 1) 1=y
  by_cases hk:v.kind=1
  ·have eg:givesH h v y ⟨8,ia,ib,ic,ii,args⟩=h:=by
    unfold givesH
    rw [if_neg (by rw [ho];decide)]
    simp [Hp.must,hk]
   have ev:aG h v y ⟨8,ia,ib,ic,ii,args⟩=⟨2,v.n⟩:=by
    unfold aG
    rw [if_neg (by rw [ho];decide)]
    simp
   rw [eg,ev,if_neg (by rw [hs];decide)]
   obtain ⟨N,hN⟩:∃N,v.n=N:=⟨_,rfl⟩
   rw [hN]
   have HR:Hid (∀X wx w,RX 1 X wx w0 g w h qs a c->Calls Tryz.prog 152 #[.pointer (some ⟨a.q,0,none⟩),.agg #[int i64 8,int i64 ia,int i64 ib,int i64 ic,int i64 ii,.slice Q nl q]] w fun e w'=>e=.returned (cn ⟨2,N⟩)/\RX 1 X wx w0 g w' h qs a { c with stk:=l }):=fun X wx w H=>hN▸xj X wx w0 g h qs a c ia ib ic ii Q nl q w H l v h0 hk
   obtain ⟨E,hE⟩:∃E,(if (aQ (({ c with stk:=l }).stk++[(⟨2,N⟩:Va)]):Int)<=({ c with stk:=l }).m.stack then Ending.returned (.tuple #[]) else aV 6 0 0)=E:=⟨_,rfl⟩
   have HP:Hid (∀X wx w,RX 1 X wx w0 g w h qs a ({ c with stk:=l })->Calls Tryz.prog 95 #[.pointer (some ⟨a.q,0,none⟩),cn (im (⟨2,N⟩:Va))] w fun e w2=>e=E/\RX 1 X wx w0 g w2 h qs a (({ c with stk:=l }).put (⟨2,N⟩:Va))):=fun X wx w H=>hE▸cM 1 X wx w0 g h qs a ({ c with stk:=l }) (⟨2,N⟩:Va) w H (show (1:Int)<=2/\(2:Int)<=3 from by decide) (by have e:c.stk.length=l.length+1:=(by rw [h0];simp);show l.length<=1000;omega)
   have HE:Hid (∀w',RX 1 X wx w0 g w' h qs a (({ c with stk:=l }).put (⟨2,N⟩:Va))->bT X wx w0 g qs a c ⟨(h).putH ({ c with stk:=l }) (⟨2,N⟩:Va),({ c with stk:=l }).put (⟨2,N⟩:Va),c.pc+1⟩ E w'):=fun w' H=>eO hs rfl ⟨rfl,rfl⟩ hE.symm H.less
   have nT:E=.returned (.tuple #[])∨E=aV 6 0 0:=by rw [<-hE];split;exact Or.inl rfl;exact Or.inr rfl
   clear hE
   have xf:Hid (im (⟨2,N⟩:Va)=⟨2,N⟩):=eJ (show (2:Int)≠3 by decide)
   rw [xf.out] at HP
   clear H hs hd bad em h0 h1 h2 h4 hk eg ev hN
   rcases nT with rfl|rfl
   ·go_enter Tryz.func94,Tryz.ntmps94
    go_wp2_with (first
     | (go_at_call 152;refine (HH.out.y.useY HB.out HR.out).mono ?_;rintro e w1 ⟨rfl,H1,K1⟩;clear K1;replace H1:=ab H1)
     | (go_at_call 95;refine (H1.out.useY (Bl.refl _) HP.out).mono ?_;rintro e w2 ⟨rfl,H2,K2⟩;clear K2;replace H2:=ab H2))
    go_end0
    exact HE.out _ H2.out.x
   ·go_enter Tryz.func94,Tryz.ntmps94
    go_wp2_with (first
     | (go_at_call 152;refine (HH.out.y.useY HB.out HR.out).mono ?_;rintro e w1 ⟨rfl,H1,K1⟩;clear K1;replace H1:=ab H1)
     | (go_at_call 95;refine (H1.out.useY (Bl.refl _) HP.out).mono ?_;rintro e w2 ⟨rfl,H2,K2⟩;clear K2;replace H2:=ab H2))
    exact ⟨rfl,HE.out _ H2.out.x⟩
  ·have eg:givesH h v y ⟨8,ia,ib,ic,ii,args⟩=h.fin 6:=by
    unfold givesH
    rw [if_neg (by rw [ho];decide)]
    simp [Hp.must,hk]
   rw [eg,if_pos (aY hs 6)]
   exact (bad (Or.inr ⟨l,v,h0,hk⟩)).mono fun e w' q=>dx (d:=⟨h.fin 6,c,0⟩) rfl (aY hs 6) q
theorem Gi (H:RX 1 X wx w0 g w h qs a c) (hs:h.stops=false) (hl:c.stk.length<=1000) :
  Calls Tryz.prog 94 #[.pointer (some ⟨a.q,0,none⟩),.agg #[int i64 9,int i64 ia,int i64 ib,int i64 ic,int i64 ii,.slice Q nl q]] w fun e w'=>bT X wx w0 g qs a c (aM h c ⟨9,ia,ib,ic,ii,args⟩) e w':=by
 have ho:=ba hs
 have HH:=ab H
 have HS:=ab hs
 have HB:Hid (Bl w (w.alloc (.cells #[int i64 9,int i64 ia,int i64 ib,int i64 ic,int i64 ii,.slice Q nl q] 55))):=(Bl.refl w).alloc _
 have bad:(c.stk=[]∨∃l v,c.stk=l++[v]/\v.kind≠2)->Calls Tryz.prog 94 #[.pointer (some ⟨a.q,0,none⟩),.agg #[int i64 9,int i64 ia,int i64 ib,int i64 ic,int i64 ii,.slice Q nl q]] w fun e w'=>bT X wx w0 g qs a c ⟨h.fin 6,c,0⟩ e w':=fun hn=>by
  have HN:=ab hn
  clear H hs hn
  go_enter Tryz.func94,Tryz.ntmps94
  go_wp2_with (go_at_call 152;refine (HH.out.y.useN HB.out (fun X wx w H=>zd X wx w0 g h qs a c ia ib ic ii Q nl q w H HN.out)).mono ?_;rintro e w1 ⟨rfl,H1⟩;replace H1:=ab H1)
  exact ⟨rfl,cY (s:=0) (ba HS.out) rfl H1.out.less⟩
 have hd:aM h c ⟨9,ia,ib,ic,ii,args⟩=b8 h c ⟨9,ia,ib,ic,ii,args⟩:=rfl
 have em:aJ 9=1:=by decide
 rw [hd]
 unfold b8
 dsimp only
 rw [em]
 rcases gB (c:=c) with h0|⟨l,v,h0⟩
 ·rw [cZ (fE h0),ft (kq ho 6).1,if_pos (aY hs 6)]
  exact (bad (Or.inl h0)).mono fun e w' q=>dx (d:=⟨h.fin 6,c,0⟩) rfl (aY hs 6) q
 ·obtain ⟨h1,h2,h4⟩:=fF h0
  rw [dJ h1,h2,h4]
  generalize nth ag (c.top 1) 1=y
  by_cases hk:v.kind=2
  ·have eg:givesH h v y ⟨9,ia,ib,ic,ii,args⟩=h:=by
    unfold givesH
    rw [if_neg (by rw [ho];decide)]
    simp [Hp.must,hk]
   have ev:aG h v y ⟨9,ia,ib,ic,ii,args⟩=⟨1,wrap32 v.n⟩:=by
    unfold aG
    rw [if_neg (by rw [ho];decide)]
    simp
   rw [eg,ev,if_neg (by rw [hs];decide)]
   obtain ⟨N,hN⟩:∃N,wrap32 v.n=N:=⟨_,rfl⟩
   rw [hN]
   have HR:Hid (∀X wx w,RX 1 X wx w0 g w h qs a c->Calls Tryz.prog 152 #[.pointer (some ⟨a.q,0,none⟩),.agg #[int i64 9,int i64 ia,int i64 ib,int i64 ic,int i64 ii,.slice Q nl q]] w fun e w'=>e=.returned (cn ⟨1,N⟩)/\RX 1 X wx w0 g w' h qs a { c with stk:=l }):=fun X wx w H=>hN▸xk X wx w0 g h qs a c ia ib ic ii Q nl q w H l v h0 hk
   obtain ⟨E,hE⟩:∃E,(if (aQ (({ c with stk:=l }).stk++[(⟨1,N⟩:Va)]):Int)<=({ c with stk:=l }).m.stack then Ending.returned (.tuple #[]) else aV 6 0 0)=E:=⟨_,rfl⟩
   have HP:Hid (∀X wx w,RX 1 X wx w0 g w h qs a ({ c with stk:=l })->Calls Tryz.prog 95 #[.pointer (some ⟨a.q,0,none⟩),cn (im (⟨1,N⟩:Va))] w fun e w2=>e=E/\RX 1 X wx w0 g w2 h qs a (({ c with stk:=l }).put (⟨1,N⟩:Va))):=fun X wx w H=>hE▸cM 1 X wx w0 g h qs a ({ c with stk:=l }) (⟨1,N⟩:Va) w H (show (1:Int)<=1/\(1:Int)<=3 from by decide) (by have e:c.stk.length=l.length+1:=(by rw [h0];simp);show l.length<=1000;omega)
   have HE:Hid (∀w',RX 1 X wx w0 g w' h qs a (({ c with stk:=l }).put (⟨1,N⟩:Va))->bT X wx w0 g qs a c ⟨(h).putH ({ c with stk:=l }) (⟨1,N⟩:Va),({ c with stk:=l }).put (⟨1,N⟩:Va),c.pc+1⟩ E w'):=fun w' H=>eO hs rfl ⟨rfl,rfl⟩ hE.symm H.less
   have nT:E=.returned (.tuple #[])∨E=aV 6 0 0:=by rw [<-hE];split;exact Or.inl rfl;exact Or.inr rfl
   clear hE
   have xf:Hid (im (⟨1,N⟩:Va)=⟨1,N⟩):=eJ (show (1:Int)≠3 by decide)
   rw [xf.out] at HP
   clear H hs hd bad em h0 h1 h2 h4 hk eg ev hN
   rcases nT with rfl|rfl
   ·go_enter Tryz.func94,Tryz.ntmps94
    go_wp2_with (first
     | (go_at_call 152;refine (HH.out.y.useY HB.out HR.out).mono ?_;rintro e w1 ⟨rfl,H1,K1⟩;clear K1;replace H1:=ab H1)
     | (go_at_call 95;refine (H1.out.useY (Bl.refl _) HP.out).mono ?_;rintro e w2 ⟨rfl,H2,K2⟩;clear K2;replace H2:=ab H2))
    go_end0
    exact HE.out _ H2.out.x
   ·go_enter Tryz.func94,Tryz.ntmps94
    go_wp2_with (first
     | (go_at_call 152;refine (HH.out.y.useY HB.out HR.out).mono ?_;rintro e w1 ⟨rfl,H1,K1⟩;clear K1;replace H1:=ab H1)
     | (go_at_call 95;refine (H1.out.useY (Bl.refl _) HP.out).mono ?_;rintro e w2 ⟨rfl,H2,K2⟩;clear K2;replace H2:=ab H2))
    exact ⟨rfl,HE.out _ H2.out.x⟩
  ·have eg:givesH h v y ⟨9,ia,ib,ic,ii,args⟩=h.fin 6:=by
    unfold givesH
    rw [if_neg (by rw [ho];decide)]
    simp [Hp.must,hk]
   rw [eg,if_pos (aY hs 6)]
   exact (bad (Or.inr ⟨l,v,h0,hk⟩)).mono fun e w' q=>dx (d:=⟨h.fin 6,c,0⟩) rfl (aY hs 6) q
theorem CN (H:RX 1 X wx w0 g w h qs a c) (hs:h.stops=false) (hl:c.stk.length<=1000) :
  Calls Tryz.prog 94 #[.pointer (some ⟨a.q,0,none⟩),.agg #[int i64 23,int i64 ia,int i64 ib,int i64 ic,int i64 ii,.slice Q nl q]] w fun e w'=>bT X wx w0 g qs a c (aM h c ⟨23,ia,ib,ic,ii,args⟩) e w':=by
 have ho:=ba hs
 have HH:=ab H
 have HS:=ab hs
 have HB:Hid (Bl w (w.alloc (.cells #[int i64 23,int i64 ia,int i64 ib,int i64 ic,int i64 ii,.slice Q nl q] 55))):=(Bl.refl w).alloc _
 have hd:aM h c ⟨23,ia,ib,ic,ii,args⟩=pj h c ⟨23,ia,ib,ic,ii,args⟩:=rfl
 rw [hd]
 unfold pj
 dsimp only
 rcases gB (c:=c) with h0|⟨l,v,h0⟩
 ·rw [cZ (fE h0),if_pos (kq ho 6).1]
  have H0:=ab h0
  clear H hs h0 hd ho
  go_enter Tryz.func94,Tryz.ntmps94
  go_wp2_with (go_at_call 143;refine (HH.out.y.useY HB.out (fun X wx w H=>nJ 1 X wx w0 g h qs a c w H H0.out)).mono ?_;rintro e w2 ⟨rfl,H2,K2⟩;replace H2:=ab H2;clear K2)
  exact ⟨rfl,cY (s:=0) (ba HS.out) rfl H2.out.x.less.rs⟩
 ·obtain ⟨h1,h2,h3⟩:=fF h0
  rw [dJ h1,h2,h3,if_neg (by rw [ho];decide)]
  have H0:=ab h0
  have hkd:1<=v.kind/\v.kind<=3:=by
   obtain ⟨vc,vo,vx,vs,l',H⟩:=H
   exact H.ca.kinds v (by rw [h0];simp)
  have hlen:c.stk.length=l.length+1:=by rw [h0];simp
  have HT:Hid (∀X wx w,RX 1 X wx w0 g w h qs a c->Calls Tryz.prog 143 #[.pointer (some ⟨a.q,0,none⟩)] w fun e w'=>e=.returned (cn (im v))/\RX 1 X wx w0 g w' h qs a { c with stk:=l }):=fun X wx w H=>iY 1 X wx w0 g h qs a c l v w H h0
  by_cases hr:(aQ (l++[v]):Int)<=c.m.stack
  ·have e1:h.putH { c with stk:=l } v=h:=by
    unfold Hp.putH Hp.must
    rw [if_neg (by rw [hs];decide),if_pos (by simpa using hr)]
   rw [e1]
   have NT:Hid (∀X wx w,RX 1 X wx w0 g w h qs a { c with stk:=l }->Calls Tryz.prog 95 #[.pointer (some ⟨a.q,0,none⟩),cn (im v)] w fun e w2=>e=.returned (.tuple #[])/\RX 1 X wx w0 g w2 h qs a (aH.put { c with stk:=l } v)):=fun X wx w H=>by
    have:=cM 1 X wx w0 g h qs a { c with stk:=l } v w H hkd (by show l.length<=1000;omega)
    dsimp only at this
    rw [if_pos hr] at this
    exact this
   obtain ⟨E,hE⟩:∃E,(if (aQ ((aH.put { c with stk:=l } v).stk++[v]):Int)<=(aH.put { c with stk:=l } v).m.stack then Ending.returned (.tuple #[]) else aV 6 0 0)=E:=⟨_,rfl⟩
   have HP:Hid (∀X wx w,RX 1 X wx w0 g w h qs a (aH.put { c with stk:=l } v)->Calls Tryz.prog 95 #[.pointer (some ⟨a.q,0,none⟩),cn (im v)] w fun e w2=>e=E/\RX 1 X wx w0 g w2 h qs a ((aH.put { c with stk:=l } v).put v)):=fun X wx w H=>hE▸cM 1 X wx w0 g h qs a (aH.put { c with stk:=l } v) v w H (hkd) (by show (l++[v]).length<=1000;simp;omega)
   have HE:Hid (∀w',RX 1 X wx w0 g w' h qs a ((aH.put { c with stk:=l } v).put v)->bT X wx w0 g qs a c ⟨(h).putH (aH.put { c with stk:=l } v) v,(aH.put { c with stk:=l } v).put v,c.pc+1⟩ E w'):=fun w' H=>eO hs rfl ⟨rfl,rfl⟩ hE.symm H.less
   have nT:E=.returned (.tuple #[])∨E=aV 6 0 0:=by rw [<-hE];split;exact Or.inl rfl;exact Or.inr rfl
   clear hE
   clear H hs hd h0 h1 h2 h3 e1 hr
   rcases nT with rfl|rfl
   ·go_enter Tryz.func94,Tryz.ntmps94
    go_wp2_with (first
     | (go_at_call 143;refine (HH.out.y.useY HB.out HT.out).mono ?_;rintro e w1 ⟨rfl,H1,K1⟩;clear K1;replace H1:=ab H1)
     | (go_at_call 95;first
       | (refine (H1.out.useY ((Bl.refl w1).alloc _) NT.out).mono ?_;rintro e w2 ⟨rfl,H2,K2⟩;have q0:=K2.at (Xp.new (Nat.le_refl _) (cX w1 _)) (aD w1 _ _);have c4:=aK q0;have c5:=aI q0;clear K2 q0;replace H2:=ab H2)
       | (refine (H2.out.useY (Bl.refl _) HP.out).mono ?_;rintro e w3 ⟨rfl,H3,K3⟩;clear K3;replace H3:=ab H3)))
    go_end0
    exact HE.out _ H3.out.x
   ·go_enter Tryz.func94,Tryz.ntmps94
    go_wp2_with (first
     | (go_at_call 143;refine (HH.out.y.useY HB.out HT.out).mono ?_;rintro e w1 ⟨rfl,H1,K1⟩;clear K1;replace H1:=ab H1)
     | (go_at_call 95;first
       | (refine (H1.out.useY ((Bl.refl w1).alloc _) NT.out).mono ?_;rintro e w2 ⟨rfl,H2,K2⟩;have q0:=K2.at (Xp.new (Nat.le_refl _) (cX w1 _)) (aD w1 _ _);have c4:=aK q0;have c5:=aI q0;clear K2 q0;replace H2:=ab H2)
       | (refine (H2.out.useY (Bl.refl _) HP.out).mono ?_;rintro e w3 ⟨rfl,H3,K3⟩;clear K3;replace H3:=ab H3)))
    exact ⟨rfl,HE.out _ H3.out.x⟩
  ·have e1:h.putH { c with stk:=l } v=h.fin 6:=by
    unfold Hp.putH Hp.must
    rw [if_neg (by rw [hs];decide),if_neg (by simpa using hr)]
   have e2:∀c' v',(h.fin 6).putH c' v'=h.fin 6:=fun c' v'=>by unfold Hp.putH;rw [if_pos (aY hs 6)]
   rw [e1,e2]
   have NT:Hid (∀X wx w,RX 1 X wx w0 g w h qs a { c with stk:=l }->Calls Tryz.prog 95 #[.pointer (some ⟨a.q,0,none⟩),cn (im v)] w fun e w2=>e=aV 6 0 0/\RX 1 X wx w0 g w2 h qs a (aH.put { c with stk:=l } v)):=fun X wx w H=>by
    have:=cM 1 X wx w0 g h qs a { c with stk:=l } v w H hkd (by show l.length<=1000;omega)
    dsimp only at this
    rw [if_neg hr] at this
    exact this
   clear H hs hd h0 h1 h2 h3 e1 e2 hr
   go_enter Tryz.func94,Tryz.ntmps94
   go_wp2_with (first
    | (go_at_call 143;refine (HH.out.y.useY HB.out HT.out).mono ?_;rintro e w1 ⟨rfl,H1,K1⟩;clear K1;replace H1:=ab H1)
    | (go_at_call 95;refine (H1.out.useY ((Bl.refl w1).alloc _) NT.out).mono ?_;rintro e w2 ⟨rfl,H2,K2⟩;clear K2;replace H2:=ab H2))
   exact ⟨rfl,cY (s:=0) (ba HS.out) rfl (H2.out.x.less.rs.of rfl ⟨rfl,rfl⟩)⟩
end
end
end Go.Proofs.YtgiiapenmjollaaGreat
