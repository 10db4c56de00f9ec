import Derived.Test.YtgiiapenmjollaaSlan
import Derived.Deep.RegionLaw
namespace Go.Proofs.Ytgiiapenmjollaa
set_option linter.all false
set_option maxHeartbeats 40000000
open Go.RowKit
theorem info_mv3:(Try.prog.info? 109).map (fun i=>(i.zero,i.size,i.bytes))=some (some (.agg #[.int .i64 0,.int .i64 0]),2,16):=by kernel_rfl
theorem RXA.push {s:Nat} {X:Nat→Prop} {wx w0 w w2:World} {g:Mg} {h:Hp} {qs:List Nat} {a:Mc} {c:Cal} {vc vo vx vs v':Value} {l:List Va} (H:RXA s X wx w0 g w h qs a c vc vo vx vs l) (hg:w.grownBy w2 vs.ownBlock) {v:Va} (hv:1≤v.kind∧v.kind≤3)
  (ho:w2.ownsRow w0.heap.size 109 2 v' (c.stk.length+1) (vaCells (c.stk.map im)++vaCells [im v])) (hat:v'.ownBlock=vs.ownBlock∨∀b,v'.ownBlock=some b→w.heap.size≤b) :
  RXA s X wx w0 g (w2.setCell ⟨a.q,12,none⟩ v') h qs a (c.put v) vc vo vx v' l:=by
 have R:=H.rh
 have C:=H.ca
 have hrow:∀b,vs.ownBlock=some b→w0.heap.size≤b:=fun b e=>(C.stk.lt b e).1
 obtain ⟨fq,fl,fs⟩:=C.far R
 have n1:vs.ownBlock≠some a.q:=own_far C.stk C.blk (by decide)
 have hq2:=grown_blk hg C.blk n1
 have hl2:=grown_blk hg C.loc C.apart
 have hg2:=grown_set (w:=w2) a.q 12 v'
 have hql:a.q≠a.lb:=blk_ne C.blk C.loc (by decide)
 have e1:(c.put v).stk.length=c.stk.length+1:=by simp [Cal.put]
 have e2:vaCells ((c.put v).stk.map im)=vaCells (c.stk.map im)++vaCells [im v]:=by rw [←vaCells_append];simp [Cal.put]
 have hap:∀b,v'.ownBlock=some b→b≠a.lb∧¬X b:=fun b e=>by
  rcases hat with q|q
  ·rw [q] at e
   exact ⟨fun z=>C.apart (by rw [←z];exact e),fun hx=>(H.farc b hx).s e⟩
  ·have h1:=q b e
   have h2:=lt_some C.loc
   refine ⟨by omega,fun hx=>?_⟩
   have:=(H.kept.blk b hx).1;have:=H.kept.size;omega
 refine ⟨(R.kept hg (fun b e=>⟨hrow b e,fs b e⟩)).kept hg2 (fun b e=>by cases e;exact ⟨C.own,fq⟩),⟨C.own,C.ownl,?_,?_,C.rel,?_,fun e=>(hap _ e).1 rfl,C.me,C.short,?_⟩,H.farr,fun b hx=>⟨(H.farc b hx).q,(H.farc b hx).l,fun e=>(hap b e).2 hx⟩,?_⟩
 ·rw [block_set hq2];rfl
 ·exact grown_blk hg2 hl2 (fun e=>hql (Option.some.inj e))
 ·rw [e1,e2]
  exact ho.kept hg2 (Or.inr (own_far ho hq2 (by decide)))
 ·intro u hu
  simp only [Cal.put,List.mem_append,List.mem_singleton] at hu
  rcases hu with hu|rfl
  ·exact C.kinds u hu
  ·exact hv
 ·exact (H.kept.kept hg (fun b e hx=>(H.farc b hx).s e)).kept hg2 (fun b e hx=>by cases e;exact (H.farc _ hx).q rfl)
theorem wid_siz {v:Va} (h:1≤v.kind∧v.kind≤3):widI v.kind=if v.kind=2 then 2 else 1:=by
 unfold widI
 split<;>(try split)<;>(try split)<;>omega
theorem sizP_le2 (l:List Va):sizP l≤2*l.length:=by
 induction l with
 | nil=>simp [sizP]
 | cons t l ih=>simp only [sizP,List.length_cons];split<;>omega
theorem sizP_takeS (l:List Va) (k:Nat) (h:k<l.length):sizP (l.take (k+1))=sizP (l.take k)+(if (nth va0 l k).kind=2 then 2 else 1):=by
 induction l generalizing k with
 | nil=>simp at h
 | cons t l ih =>
  cases k with
  | zero=>simp [sizP,nth]
  | succ k =>
   have:=ih k (by simpa using h)
   have e:nth va0 (t::l) (k+1)=nth va0 l k:=by simp [nth]
   rw [e,List.take_succ_cons,List.take_succ_cons,sizP,sizP,this];omega
theorem stk_read {w0 w:World} {g:Mg} {a:Mc} {c:Cal} {v:Va} {l:List Va} {gb cp:Nat} (H:CA w0 g w a (c.put v) l (.slice (some ⟨gb,0,none⟩) (c.stk.length+1) cp)) :
  ∀k,k<c.stk.length+1→w.cell? ⟨gb,k*2,none⟩=some (.int .i64 (nth va0 (c.stk++[v]) k).kind)∧w.cell? ⟨gb,k*2+1,none⟩=some (.int .i64 (im (nth va0 (c.stk++[v]) k)).n)∧1≤(nth va0 (c.stk++[v]) k).kind∧(nth va0 (c.stk++[v]) k).kind≤3:=by
 intro k hk
 have hl:(c.stk++[v]).length=c.stk.length+1:=by simp
 have hkl:k<(c.stk++[v]).length:=by omega
 have hm:(nth va0 (c.stk++[v]) k)∈(c.put v).stk:=nth_mem hkl
 have hkd:=H.kinds _ hm
 rcases H.stk.2 with ⟨h0,-⟩|⟨g',cap',cur,hv,h2,h3,h4,h5,h6,h7⟩
 ·simp at h0
 ·simp only [Value.slice.injEq,Option.some.injEq,Addr.mk.injEq] at hv
  obtain ⟨⟨rfl,-⟩,-,rfl⟩:=hv
  have e1:(c.put v).stk=c.stk++[v]:=rfl
  have hx:=va_cells ((c.stk++[v]).map im) k (by simpa using hk)
  have e2:nth va0 ((c.stk++[v]).map im) k=im (nth va0 (c.stk++[v]) k):=by
   rw [nth_get (l:=(c.stk++[v]).map im) (by rw [List.length_map];exact hkl),nth_get hkl,List.getElem_map]
  rw [e2,←e1,←h7,List.getElem?_take,List.getElem?_take,e1,hl,if_pos (by omega),if_pos (by omega)] at hx
  refine ⟨?_,?_,hkd⟩
  ·rw [cell_blk h3]
   have hx1:cur[k*2]?=some (.int .i64 (im (nth va0 (c.stk++[v]) k)).kind):=by simpa using hx.1
   exact hx1
  ·rw [cell_blk h3];simpa using hx.2
set_option maxRecDepth 100000 in
theorem mput_any (s:Nat) (X:Nat→Prop) (wx w0:World) (g:Mg) (h:Hp) (qs:List Nat) (a:Mc) (c:Cal) (v:Va) (w:World) (H:RX s X wx w0 g w h qs a c) (hv:1≤v.kind∧v.kind≤3) (hs:c.stk.length≤1000) :
  Calls Try.prog 95 #[.pointer (some ⟨a.q,0,none⟩),mvV (im v)] w fun e w'=>e=(if (sizP (c.stk++[v]):Int)≤c.m.stack then .returned (.tuple #[]) else stopE 6 0 0)∧RX s X wx w0 g w' h qs a (c.put v):=by
 obtain ⟨i0,hi0,hz0,hz1,hz2⟩:=info_parts info_mv3
 have hbs:=H.size
 obtain ⟨vc,vo,vx,vs,l,H⟩:=H
 have HV:=hid hv
 obtain ⟨A,cap,hvs,h1,h2⟩:=own_form H.ca.stk
 subst hvs
 have HH:=hid (H.bl ((Bl.refl w).alloc (mvO (im v))))
 have HL:=hid (blk_new w #[.int .i64 (im v).kind,.int .i64 (im v).n] 109)
 have x0:=c0_of HL.out
 have x1:=c1_of HL.out
 have HX1:=H.ca.stk
 have c12:=HH.out.ca.cells.c12
 have fz:=HH.out.ca.free
 have hq:=lt_some H.ca.blk
 have HO:=hid HH.out.ca.stk
 have HP:=hid (HH.out.ca.blk)
 have HNB:Hid ((Value.slice A c.stk.length cap).ownBlock≠some w.heap.size):=fun e=>by have:=row_lt HX1 e;omega
 have HNH:=hid (own_far HO.out HP.out (by decide))
 clear H HX1 hv
 go_enter Try.func95,Try.ntmps95
 go_wp2
 go_region_law ((refine step_append_lies _ (by rfl) _ _ _ (by rfl) w0.heap.size 109 i0 _ 2 16 Try.underlying89 hi0 hz0 hz1 hz2 rfl (by omega) (.slice A c.stk.length cap) c.stk.length (vaCells (c.stk.map im)) (by rfl) ((HO.out.alloc _).drew) ⟨w.heap.size+1,0,none⟩ 1 1 [.int .i64 (im v).kind,.int .i64 (im v).n] (by rfl) (by rfl) (World.news_of_block (cs:=#[.int .i64 (im v).kind,.int .i64 (im v).n]) (t:=109) (fr:=(0,0)) (by rw [←lt_sz w (mvO (im v))];exact blk_new _ _ _)) (by simp [Value.oneCell']) (by omega) (by unfold maxLen;omega) (by omega) (by simp;omega) _ rfl ?_;intro gb cp w1 hown hgrow hat hlt1;have hp2:=grown_blk hgrow ((Below.heap_alloc _ _ _ (lt_some HP.out)).trans HP.out) HNH.out;have hb2:=grown_blk hgrow ((Below.heap_alloc _ _ _ (lt_some HL.out)).trans HL.out) HNB.out;have q12:w1.cell? ⟨a.q,12,none⟩=some (.slice A c.stk.length cap):=(cell_blk hp2).trans rfl;have z12:=free_blk hp2 12;have y0:=c0_of hb2;have y1:=c1_of hb2;have hql:=lt_some hp2;replace hown:=hid hown;replace hgrow:=hid hgrow;replace hat:=hid hat;clear hb2 hp2))
 all_goals
  obtain ⟨W,hW⟩:∃W,W=w1.setCell ⟨a.q,12,none⟩ (.slice (some ⟨gb,0,none⟩) (c.stk.length+1) cp):=⟨_,rfl⟩
  have HA:RXA s X wx w0 g W h qs a (c.put v) vc vo vx (.slice (some ⟨gb,0,none⟩) (c.stk.length+1) cp) l:=by
   rw [hW]
   exact RXA.push (HH.out.bl (((Bl.refl _).alloc _).drew)) hgrow.out HV.out hown.out (hat.out.elim (fun e=>Or.inl e.symm) (fun e=>Or.inr fun b hb=>Nat.le_of_eq (e.symm.trans (by simpa [Value.ownBlock] using hb))))
  rw [←hW]
  clear hW
  have k12:=HA.ca.cells.c12
  have k5:=HA.ca.cells.c5
  have VR:Hid (∀k,k<c.stk.length+1→W.cell? ⟨gb,k*2,none⟩=some (.int .i64 (nth va0 (c.stk++[v]) k).kind)∧W.cell? ⟨gb,k*2+1,none⟩=some (.int .i64 (im (nth va0 (c.stk++[v]) k)).n)∧1≤(nth va0 (c.stk++[v]) k).kind∧(nth va0 (c.stk++[v]) k).kind≤3):=stk_read HA.ca
  replace HA:=hid HA
  clear hown hgrow hat q12 z12 y0 y1 hql hlt1 w1
  have hsz:∀k,sizP ((c.stk++[v]).take k)≤2*k:=fun k=>by
   have:=sizP_le2 ((c.stk++[v]).take k)
   have:=List.length_take_le k (c.stk++[v])
   omega
  have HSZ:=hid hsz
  clear hsz
  obtain ⟨N,hN⟩:∃N,c.stk.length+1=N:=⟨_,rfl⟩
  have hN1:N≤1001:=by omega
  have HST:Hid ((c.stk++[v]).length=N):=by show (c.stk++[v]).length=N;rw [←hN];simp
  rw [hN] at k12 VR HA ⊢
  clear hN
  go_wp2
  go_loopw [4,22] (fun u i wr=>∃k:Nat,k≤N∧i=.int .i64 k∧u=.int .i64 ((sizP ((c.stk++[v]).take k):Nat):Int)∧Bl W wr) (fun _ i _=>N-(intOf i).toNat)
  case atStart=>exact ⟨0,Nat.zero_le _,rfl,by simp [sizP],Bl.refl _⟩
  case round =>
   obtain ⟨k,hk,rfl,rfl,hbl⟩:=hrel
   have h2:=HSZ.out k
   by_cases hlt:k<N
   ·obtain ⟨r0,r1,r2⟩:=VR.out k hlt
    replace r0:=hbl.cell r0
    replace r1:=hbl.cell r1
    have hgb:=cell_lt r0
    have HS1:=hid (sizP_takeS (c.stk++[v]) k (by rw [HST.out];exact hlt))
    have HW:=hid (wid_siz r2)
    have hk0:(0:Int)≤(k:Int):=by omega
    have hk1:(k:Int)<(N:Int):=by omega
    generalize nth va0 (c.stk++[v]) k=u at *
    obtain ⟨z,hz⟩:∃z,sizP ((c.stk++[v]).take k)=z:=⟨_,rfl⟩
    rw [hz] at HS1 h2
    have HBL:=hid hbl
    have HZ:=hid hz
    rw [hz]
    clear r2 hz hbl
    go_wp2_with (go_at_call 82;refine (width_any _ _).mono ?_;rintro e w2 ⟨he,hw⟩;rw [HW.out] at he;subst he;rw [hw];clear hw w2)
    by_cases hu2:u.kind=2
    ·rw [if_pos hu2] at HS1 ⊢
     go_wp2
     go_roundw
     case rel=>exact ⟨k+1,by omega,by go_num,by rw [HS1.out];go_num,HBL.out.alloc _⟩
     case measure=>simp [intOf];omega
    ·rw [if_neg hu2] at HS1 ⊢
     go_wp2
     go_roundw
     case rel=>exact ⟨k+1,by omega,by go_num,by rw [HS1.out];go_num,HBL.out.alloc _⟩
     case measure=>simp [intOf];omega
   ·have hkN:k=N:=by omega
    subst hkN
    have hfull:(c.stk++[v]).take k=c.stk++[v]:=List.take_of_length_le (Nat.le_of_eq HST.out)
    rw [hfull] at h2 ⊢
    have HA2:=HA.out.bl hbl
    have m5:wr.cell? ⟨a.q,5,none⟩=some (.int .i64 c.m.stack):=HA2.ca.cells.c5
    have HA2:=hid HA2
    clear k5 k12
    by_cases hroom:(sizP (c.stk++[v]):Int)≤c.m.stack
    ·have HRm:=hid hroom
     have hd:decide (c.m.stack<(sizP (c.stk++[v]):Int))=false:=by simpa using hroom
     go_wp2
     go_end0
     exact ⟨rfl,_,_,_,_,_,HA2.out⟩
    ·have HRm:=hid hroom
     have hd:decide (c.m.stack<(sizP (c.stk++[v]):Int))=true:=by simpa using hroom
     go_wp2_with (go_at_call 87;refine (mstuck_any _).mono ?_;rintro e w1 ⟨rfl,hw⟩;rw [hw];clear hw w1)
     exact ⟨rfl,rfl,_,_,_,_,_,HA2.out⟩
def DidE (d:Did):Ending:=if d.h.over=true then stopE d.h.sh.fin 0 0 else if 0≤d.h.thrown then thrE d.h.thrown else .returned (.tuple #[])
structure DidQ (X:Nat→Prop) (wx w0:World) (g:Mg) (qs:List Nat) (a:Mc) (c:Cal) (d:Did) (e:Ending) (w':World):Prop where
 how:e=DidE d
 stop:d.h.stops=true→RS 0 X wx w0 g w' d.h qs a c
 go:d.h.stops=false→RX 0 X wx w0 g w' d.h qs a d.c
theorem RH.less {w0 w:World} {g:Mg} {h:Hp} {qs:List Nat} {vc vo vx:Value} (H:RH 1 w0 g w h qs vc vo vx):RH 0 w0 g w h qs vc vo vx:=by
 obtain ⟨n,D,F⟩:=H.fld
 exact ⟨H.ownr,H.ownh,H.ownm,H.bl,H.run,H.hp,H.out,H.obs,H.calls,n,D,F.own,by have:=F.few;omega,F.hit,F.miss,F.new,F.ks,F.kd⟩
theorem RX.less {X:Nat→Prop} {wx w0 w:World} {g:Mg} {h:Hp} {qs:List Nat} {a:Mc} {c:Cal} (H:RX 1 X wx w0 g w h qs a c):RX 0 X wx w0 g w h qs a c:=by
 obtain ⟨vc,vo,vx,vs,l,H⟩:=H
 exact ⟨vc,vo,vx,vs,l,H.rh.less,H.ca,H.farr,H.farc,H.kept⟩
theorem RS.less {X:Nat→Prop} {wx w0 w:World} {g:Mg} {h:Hp} {qs:List Nat} {a:Mc} {c:Cal} (H:RS 1 X wx w0 g w h qs a c):RS 0 X wx w0 g w h qs a c:=by
 obtain ⟨d,e1,e2,H⟩:=H
 exact ⟨d,e1,e2,H.less⟩
theorem fin6 {h:Hp} (ho:h.over=false) (k:Int):(h.fin k).over=true∧(h.fin k).sh.fin=k:=by
 unfold Hp.fin;rw [if_neg (by rw [ho];decide)];exact ⟨rfl,rfl⟩
theorem did_fin {X:Nat→Prop} {wx w0 w':World} {g:Mg} {h h':Hp} {qs:List Nat} {a:Mc} {c c':Cal} {nx:Int} {k:Int} {s:Nat} (ho:h.over=false) (e:h'=h.fin k) (H:RS 0 X wx w0 g w' h qs a c):DidQ X wx w0 g qs a c ⟨h',c',nx⟩ (stopE k 0 0) w':=by
 subst e
 obtain ⟨h1,h2⟩:=fin6 ho k
 refine ⟨?_,fun _=>H.eqv (fin_eqv h k),fun q=>?_⟩
 ·unfold DidE;dsimp only;rw [if_pos h1,h2]
 ·simp [Hp.stops,h1] at q
theorem did_put {X:Nat→Prop} {wx w0 w':World} {g:Mg} {h:Hp} {qs:List Nat} {a:Mc} {c c1:Cal} {v:Va} {nx:Int} {e:Ending} (hs:h.stops=false) (hm:c1.m=c.m) (hp:c1.pc=c.pc∧c1.locs=c.locs)
  (he:e=if (sizP (c1.stk++[v]):Int)≤c1.m.stack then .returned (.tuple #[]) else stopE 6 0 0) (H:RX 0 X wx w0 g w' h qs a (c1.put v)):DidQ X wx w0 g qs a c ⟨h.putH c1 v,c1.put v,nx⟩ e w':=by
 have hp1:=hs
 unfold Hp.stops at hp1
 rw [Bool.or_eq_false_iff] at hp1
 have ht:¬0≤h.thrown:=by simpa using hp1.2
 by_cases hr:(sizP (c1.stk++[v]):Int)≤c1.m.stack
 ·have e1:h.putH c1 v=h:=by
   unfold Hp.putH Hp.must
   rw [if_neg (by rw [hs];decide),if_pos (by simpa using hr)]
  rw [e1]
  rw [if_pos hr] at he
  refine ⟨?_,fun q=>?_,fun _=>H⟩
  ·unfold DidE;dsimp only;rw [if_neg (by rw [hp1.1];decide),if_neg ht];exact he
  ·rw [hs] at q;exact absurd q (by decide)
 ·have e1:h.putH c1 v=h.fin 6:=by
   unfold Hp.putH Hp.must
   rw [if_neg (by rw [hs];decide),if_neg (by simpa using hr)]
  rw [if_neg hr] at he
  rw [he]
  exact did_fin (s:=0) hp1.1 e1 ⟨c1.put v,hm,hp,H⟩
theorem raise_full {h:Hp} (k:Int) (ho:h.over=false) (hf:h.full=true):h.raise k=h.fin 4:=by
 unfold Hp.raise Hp.new
 rw [if_pos hf,if_pos (fin6 ho 4).1]
theorem raise_new {h:Hp} (k:Int) (ho:h.over=false) (hf:h.full=false):h.raise k={ h with objs:=h.objs++[⟨k,newHeld h.file.classes k.toNat⟩],thrown:=(h.objs.length:Nat) }:=by
 have hn:h.new k={ h with objs:=h.objs++[⟨k,newHeld h.file.classes k.toNat⟩] }:=by unfold Hp.new;rw [if_neg (by rw [hf];decide)]
 have hv:h.newV=⟨3,(h.objs.length:Nat)⟩:=by unfold Hp.newV;rw [if_neg (by rw [hf];decide)]
 unfold Hp.raise
 rw [hn,hv,if_neg (by simp [ho])]
theorem did_raise {X:Nat→Prop} {wx w0 w':World} {g:Mg} {h h':Hp} {qs:List Nat} {a:Mc} {c c':Cal} {nx k:Int} (hs:h.stops=false) (e:h'=h.raise k) (H:RS 0 X wx w0 g w' (h.raise k) qs a c):DidQ X wx w0 g qs a c ⟨h',c',nx⟩ (raiseE h) w':=by
 subst e
 unfold Hp.stops at hs
 rw [Bool.or_eq_false_iff] at hs
 cases hf:h.full with
 | true =>
  have e1:=raise_full k hs.1 hf
  have h1:=fin6 hs.1 4
  refine ⟨?_,fun _=>H,fun q=>?_⟩
  ·unfold DidE raiseE
   dsimp only
   rw [e1,if_pos hf,if_pos h1.1,h1.2]
  ·dsimp only at q;rw [e1] at q;simp [Hp.stops,h1.1] at q
 | false =>
  have e1:=raise_new k hs.1 hf
  refine ⟨?_,fun _=>H,fun q=>?_⟩
  ·unfold DidE raiseE
   dsimp only
   rw [e1,if_neg (by rw [hf];decide)]
   dsimp only
   rw [if_neg (by rw [hs.1];decide),if_pos (by omega)]
  ·dsimp only at q;rw [e1] at q
   simp [Hp.stops] at q
theorem stk_one {c:Cal}:c.stk=[]∨∃l v,c.stk=l++[v]:=by
 rcases List.eq_nil_or_concat c.stk with h|⟨l,v,h⟩
 ·exact Or.inl h
 ·exact Or.inr ⟨l,v,by rw [h,List.concat_eq_append]⟩
theorem has_nil {c:Cal} (h:c.stk=[]):c.has 1=false:=by unfold Cal.has;rw [h];rfl
theorem has_one {c:Cal} {l:List Va} {v:Va} (h:c.stk=l++[v]):c.has 1=true∧nth va0 (c.top 1) 0=v∧c.cut 1={ c with stk:=l }:=by
 have hl:c.stk.length=l.length+1:=by rw [h];simp
 refine ⟨by unfold Cal.has;rw [hl];simp,?_,?_⟩
 ·unfold Cal.top
  rw [if_pos (by omega),hl,h]
  simp [nth]
 ·unfold Cal.cut
  rw [if_pos (by omega),hl,h]
  simp
theorem has_two {c:Cal} {l:List Va} {u v:Va} (h:c.stk=l++[u,v]):c.has 2=true∧nth va0 (c.top 2) 0=u∧nth va0 (c.top 2) 1=v∧c.cut 2={ c with stk:=l }:=by
 have hl:c.stk.length=l.length+2:=by rw [h];simp
 refine ⟨by unfold Cal.has;rw [hl];simp,?_,?_,?_⟩
 ·unfold Cal.top
  rw [if_pos (by omega),hl,h]
  simp [nth]
 ·unfold Cal.top
  rw [if_pos (by omega),hl,h]
  simp [nth]
 ·unfold Cal.cut
  rw [if_pos (by omega),hl,h]
  simp
theorem has_two_no {c:Cal} (h:∀l u v,c.stk≠l++[u,v]):c.has 2=false:=by
 unfold Cal.has
 rw [decide_eq_false_iff_not]
 intro hl
 rcases List.eq_nil_or_concat c.stk with h1|⟨l,v,h1⟩
 ·rw [h1] at hl;simp at hl
 ·rw [List.concat_eq_append] at h1
  rcases List.eq_nil_or_concat l with h2|⟨l',u,h2⟩
  ·rw [h1,h2] at hl;simp at hl
  ·rw [List.concat_eq_append] at h2
   exact h l' u v (by rw [h1,h2];simp)
section
open Go.Maps (Keyed has)
theorem info_i641:(Try.prog.info? 2).map (fun i=>(i.zero,i.size,i.bytes))=some (some (.int .i64 0),1,8):=by kernel_rfl
theorem RH.runCells {s:Nat} {w0 w:World} {g:Mg} {h:Hp} {qs:List Nat} {vc vo vx:Value} (H:RH s w0 g w h qs vc vo vx) :
  w.cell? ⟨g.r,0,none⟩=some (.pointer (some ⟨g.hb,0,none⟩))∧w.cell? ⟨g.r,1,none⟩=some (.slice g.M h.file.methods.length g.m)∧w.cell? ⟨g.r,2,none⟩=some (.func (.func 51) #[] #[])∧w.cell? ⟨g.r,3,none⟩=some vc
  ∧ w.cell? ⟨g.r,4,none⟩=some (.slice g.I h.input.length g.i)∧w.cell? ⟨g.r,5,none⟩=some (.int .i64 h.fuel)∧w.cell? ⟨g.r,6,none⟩=some (.int .i64 h.sh.steps)∧w.cell? ⟨g.r,7,none⟩=some (.int .i64 h.sh.used)∧w.cell? ⟨g.r,8,none⟩=some vx:=by
 refine ⟨?_,?_,?_,?_,?_,?_,?_,?_,?_⟩<;>(rw [cell_blk H.run];rfl)
def Hp.outs (h:Hp) (n:Int):Hp:={ h with sh:={ h.sh with out:=h.sh.out++[n] } }
def Hp.uses (h:Hp):Hp:={ h with sh:={ h.sh with used:=h.sh.used+1 } }
theorem RXA.emit {s:Nat} {X:Nat→Prop} {wx w0 w w2:World} {g:Mg} {h:Hp} {qs:List Nat} {a:Mc} {c:Cal} {vc vo vx vs v':Value} {l:List Va} (H:RXA s X wx w0 g w h qs a c vc vo vx vs l) (hg:w.grownBy w2 vx.ownBlock) {k:Int}
  (ho:w2.ownsRow w0.heap.size 2 1 v' (h.sh.out.length+1) (h.sh.out.map (Value.int .i64)++[.int .i64 k])) (hat:v'.ownBlock=vx.ownBlock∨∀b,v'.ownBlock=some b→w.heap.size≤b) :
  RXA s X wx w0 g (w2.setCell ⟨g.r,8,none⟩ v') (h.outs k) qs a c vc vo v' vs l:=by
 have R:=H.rh
 obtain ⟨n,D,F⟩:=R.fld
 obtain ⟨fr,fh,fm,fc,fo,fx⟩:=H.ca.farC R
 have hrow:∀b,vx.ownBlock=some b→w0.heap.size≤b:=fun b e=>(R.out.lt b e).1
 have n1:vx.ownBlock≠some g.r:=own_far R.out R.run (by decide)
 have n2:vx.ownBlock≠some g.hb:=own_far R.out R.hp (by decide)
 have n3:vx.ownBlock≠some g.mp:=map_row R.out F.own
 have hr2:=grown_blk hg R.run n1
 have hg2:=grown_set (w:=w2) g.r 8 v'
 have nrh:(some g.r:Option Nat)≠some g.hb:=fun e=>blk_ne R.hp R.run (by decide) (Option.some.inj e).symm
 have nrm:g.r≠g.mp:=map_ne R.run F.own
 have hne:∀(vv:Value) {b e sz nn xs},w.ownsRow b e sz vv nn xs→e≠2→vv.ownBlock=none∨vv.ownBlock≠vx.ownBlock:=fun vv b e sz nn xs hr he=>row_ne hr R.out he
 have C2:=H.ca.kept hg (fun b e=>fx b e)
 have far':∀b,X b→FarR g vc vo v' b:=fun b hx=>⟨(H.farr b hx).r,(H.farr b hx).h,(H.farr b hx).m,(H.farr b hx).c,(H.farr b hx).o,fun e=>by
  rcases hat with q|q
  ·rw [q] at e;exact (H.farr b hx).x e
  ·have:=q b e;have:=(H.kept.blk b hx).1;have:=H.kept.size;omega⟩
 refine ⟨⟨R.ownr,R.ownh,R.ownm,?_,?_,?_,?_,?_,?_,n,D,?_⟩,?_,far',H.farc,?_⟩
 ·exact Below.setCell (Below.grown R.bl hg R.bl.size hrow) R.ownr _
 ·rw [block_set hr2];rfl
 ·exact grown_blk hg2 (grown_blk hg R.hp n2) nrh
 ·have:=ho.kept hg2 (Or.inr (own_far ho hr2 (by decide)))
  simpa [Hp.outs] using this
 ·exact (R.obs.kept hg (hne vo R.obs (by decide))).kept hg2 (Or.inr (own_far (R.obs.kept hg (hne vo R.obs (by decide))) hr2 (by decide)))
 ·exact (R.calls.kept hg (hne vc R.calls (by decide))).kept hg2 (Or.inr (own_far (R.calls.kept hg (hne vc R.calls (by decide))) hr2 (by decide)))
 ·exact ⟨(F.own.kept hg (fun e=>n3 e.symm)).kept hg2 (fun e=>nrm (Option.some.inj e).symm),F.few,F.hit,F.miss,F.new,F.ks,F.kd⟩
 ·exact C2.kept hg2 (fun b e=>by cases e;exact ⟨fr.q,fr.l,fr.s⟩)
 ·exact (H.kept.kept hg (fun b e hx=>(H.farr b hx).x e)).kept hg2 (fun b e hx=>by cases e;exact (H.farr _ hx).r rfl)
theorem RXA.setr {s s':Nat} {X:Nat→Prop} {wx w0 w:World} {g:Mg} {h h':Hp} {qs:List Nat} {a:Mc} {c:Cal} {vc vo vx vs v':Value} {l:List Va} (H:RXA s X wx w0 g w h qs a c vc vo vx vs l) {i:Nat} (hrow:(runRow g h vc vx).setIfInBounds i v'=runRow g h' vc vx)
  (e1:h'.file=h.file) (e2:h'.objs=h.objs) (e3:h'.sh.out=h.sh.out) (e4:h.sh.steps-s≤h'.sh.steps-s'):RXA s' X wx w0 g (w.setCell ⟨g.r,i,none⟩ v') h' qs a c vc vo vx vs l:=by
 have R:=H.rh
 obtain ⟨n,D,F⟩:=R.fld
 obtain ⟨fr,-⟩:=H.ca.farC R
 have hg2:=grown_set (w:=w) g.r i v'
 have nrh:(some g.r:Option Nat)≠some g.hb:=fun e=>blk_ne R.hp R.run (by decide) (Option.some.inj e).symm
 have nrm:g.r≠g.mp:=map_ne R.run F.own
 have r2:heapRow g h' vo=heapRow g h vo:=by unfold heapRow;rw [e1]
 refine ⟨⟨R.ownr,R.ownh,R.ownm,Below.setCell R.bl R.ownr _,?_,?_,?_,?_,?_,n,D,?_⟩,H.ca.kept hg2 (fun b e=>by cases e;exact fr),H.farr,H.farc,H.kept.kept hg2 (fun b e hx=>by cases e;exact (H.farr _ hx).r rfl)⟩
 ·rw [block_set R.run,hrow]
 ·rw [r2];exact grown_blk hg2 R.hp nrh
 ·rw [e3];exact R.out.kept hg2 (Or.inr (own_far R.out R.run (by decide)))
 ·rw [e2];exact R.obs.kept hg2 (Or.inr (own_far R.obs R.run (by decide)))
 ·exact R.calls.kept hg2 (Or.inr (own_far R.calls R.run (by decide)))
 ·exact ⟨F.own.kept hg2 (fun e=>nrm (Option.some.inj e).symm),by have:=F.few;omega,by rw [e2];exact F.hit,by rw [e2,e1];exact F.miss,by rw [e2];exact F.new,by rw [e2,e1];exact F.ks,by rw [e2,e1];exact F.kd⟩
set_option maxRecDepth 100000 in
theorem memit_any (s:Nat) (X:Nat→Prop) (wx w0:World) (g:Mg) (h:Hp) (qs:List Nat) (a:Mc) (c:Cal) (v:Va) (w:World) (H:RX s X wx w0 g w h qs a c) (ho:h.sh.out.length≤100000) :
  Calls Try.prog 118 #[.pointer (some ⟨g.r,0,none⟩),mvV v] w fun e w'=>e=.returned (.tuple #[])∧RX s X wx w0 g w' (h.outs v.n) qs a c:=by
 obtain ⟨i0,hi0,hz0,hz1,hz2⟩:=info_parts info_i641
 have hbs:=H.size
 obtain ⟨vc,vo,vx,vs,l,H⟩:=H
 obtain ⟨A,cap,hvx,h1,h2⟩:=own_form H.rh.out
 subst hvx
 have HH:=hid (H.bl ((Bl.refl w).alloc (mvO v)))
 have HL:=hid (blk_new w #[.int .i64 v.kind,.int .i64 v.n] 109)
 have x1:=c1_of HL.out
 have HX1:=H.rh.out
 have c8:=HH.out.rh.runCells.2.2.2.2.2.2.2.2
 have fz:=free_blk HH.out.rh.run 8
 have hq:=lt_some H.rh.run
 have HO:=hid HH.out.rh.out
 have HP:=hid (HH.out.rh.run)
 have HNB:Hid ((Value.slice A h.sh.out.length cap).ownBlock≠some w.heap.size):=fun e=>by have:=row_lt HX1 e;omega
 have HNH:=hid (own_far HO.out HP.out (by decide))
 clear H HX1
 go_enter Try.func118,Try.ntmps118
 go_wp2
 go_region_law ((refine step_append_lies _ (by rfl) _ _ _ (by rfl) w0.heap.size 2 i0 _ 1 8 Try.underlying38 hi0 hz0 hz1 hz2 rfl (by omega) (.slice A h.sh.out.length cap) h.sh.out.length (h.sh.out.map (Value.int .i64)) (by rfl) ((HO.out.alloc _).drew) ⟨w.heap.size+1,0,none⟩ 1 1 [.int .i64 v.n] (by rfl) (by rfl) (World.news_of_block (cs:=#[.int .i64 v.n]) (t:=2) (fr:=(0,0)) (by rw [←lt_sz w (mvO v)];exact blk_new _ _ _)) (by simp [Value.oneCell']) (by omega) (by unfold maxLen;omega) (by omega) (by simp;omega) _ rfl ?_;intro gb cp w1 hown hgrow hat hlt1;have hp2:=grown_blk hgrow ((Below.heap_alloc _ _ _ (lt_some HP.out)).trans HP.out) HNH.out;have hb2:=grown_blk hgrow ((Below.heap_alloc _ _ _ (lt_some HL.out)).trans HL.out) HNB.out;have q8:w1.cell? ⟨g.r,8,none⟩=some (.slice A h.sh.out.length cap):=(cell_blk hp2).trans rfl;have z8:=free_blk hp2 8;have y1:=c1_of hb2;have hql:=lt_some hp2;replace hown:=hid hown;replace hgrow:=hid hgrow;replace hat:=hid hat;clear hb2 hp2))
 all_goals
  go_wp2
  go_end0
  exact ⟨rfl,_,_,_,_,_,RXA.emit (HH.out.bl (((Bl.refl _).alloc _).drew)) hgrow.out hown.out (hat.out.elim (fun e=>Or.inl e.symm) (fun e=>Or.inr fun b hb=>Nat.le_of_eq (e.symm.trans (by simpa [Value.ownBlock] using hb))))⟩
set_option maxRecDepth 100000 in
theorem min_no (s:Nat) (X:Nat→Prop) (wx w0:World) (g:Mg) (h:Hp) (qs:List Nat) (a:Mc) (c:Cal) (w:World) (H:RX s X wx w0 g w h qs a c) (hd:h.dry=true) :
  Calls Try.prog 119 #[.pointer (some ⟨g.r,0,none⟩)] w fun e w'=>e=stopE 3 0 0∧RX s X wx w0 g w' h qs a c:=by
 have HH:=hid H
 obtain ⟨vc,vo,vx,vs,l,H⟩:=H
 have c4:=H.rh.runCells.2.2.2.2.1
 have c7:=H.rh.runCells.2.2.2.2.2.2.2.1
 have hq:=lt_some H.rh.run
 have hge:(h.input.length:Int)≤h.sh.used:=of_decide_eq_true hd
 clear H hd
 go_enter Try.func119,Try.ntmps119
 go_wp2
 go_quiet (fail)
 go_wp2_with (go_at_call 98;refine (mend_any 3 _).mono ?_;rintro e w1 ⟨rfl,hw⟩;rw [hw];clear hw w1)
 exact ⟨rfl,rfl,HH.out.bl (bl_drewN ((Bl.refl w).alloc _) _)⟩
set_option maxRecDepth 100000 in
theorem min_yes (s:Nat) (X:Nat→Prop) (wx w0:World) (g:Mg) (h:Hp) (qs:List Nat) (a:Mc) (c:Cal) (w:World) (H:RX s X wx w0 g w h qs a c) (hI:IntsAt w0 g.I h.input) (hd:h.dry=false) (hu:0≤h.sh.used) (hl:h.input.length≤1000000) :
  Calls Try.prog 119 #[.pointer (some ⟨g.r,0,none⟩)] w fun e w'=>e=.returned (mvV ⟨2,nth (0:Int) h.input h.sh.used.toNat⟩)∧RX s X wx w0 g w' h.uses qs a c:=by
 have hlt:h.sh.used<(h.input.length:Int):=by have:=of_decide_eq_false hd;omega
 obtain ⟨u,hu'⟩:∃u:Nat,h.sh.used=u:=⟨h.sh.used.toNat,by omega⟩
 have hul:u<h.input.length:=by omega
 rcases hI.2 with h0|⟨ib,io,hI',hic⟩
 ·omega
 have hx:=(hic u hul).1
 have e1:h.sh.used.toNat=u:=by omega
 rw [e1]
 have hbs:=H.size
 obtain ⟨vc,vo,vx,vs,l,H⟩:=H
 have HH:=hid (H.bl ((Bl.refl w).alloc mvZ))
 have HL:=hid (blk_new w #[.int .i64 0,.int .i64 0] 109)
 have c4:=H.rh.runCells.2.2.2.2.1
 have c7:=H.rh.runCells.2.2.2.2.2.2.2.1
 have fz:=free_blk H.rh.run
 have hq:=lt_some H.rh.run
 have xi:=Bl.cell H.rh.bl hx
 have hib:=cell_lt xi
 have hibr:ib≠g.r:=by have h1:=cell_lt hx;have h2:=H.rh.ownr;omega
 have HHR:Hid (∀nq,RXA s X wx w0 g (((w.alloc mvZ).drewN nq).setCell ⟨g.r,7,none⟩ (.int .i64 ((u:Int)+1))) h.uses qs a c vc vo vx vs l):=fun nq=>RXA.setr (HH.out.bl (bl_drewN (Bl.refl _) nq)) (by unfold runRow Hp.uses;simp [hu']) rfl rfl rfl (Int.le_refl _)
 have hqr:g.r≠w.heap.size:=by omega
 rw [hI'] at c4
 rw [hu'] at c7 hlt
 have hu0:(0:Int)≤(u:Int):=by omega
 have hlt':(u:Int)<(h.input.length:Int):=by omega
 have hs1:((u:Int)+1-1)=(u:Int):=by omega
 have hw1:IntKind.i64.wrap (u:Int)=(u:Int):=by rw [IntKind.wrap_i64];omega
 have HFar:=hid (H.rh.farNew (Nat.le_refl _))
 have HFac:=hid (H.ca.farNew (Nat.le_refl _))
 have HFx:Hid (¬X w.heap.size):=fun hx=>by have:=(H.kept.blk _ hx).1;have:=H.kept.size;omega
 have HX0:=hid hx
 have HU:=hid hu'
 have HI:=hid hI'
 clear H hd hu hic hx hI hu' e1 hI'
 generalize nth (0:Int) h.input u=V at *
 go_enter Try.func119,Try.ntmps119
 go_wp2
 go_quiet (fail)
 go_wp2
 have HA:=HHR.out nq
 have b0:(((w.alloc mvZ).drewN nq).setCell ⟨g.r,7,none⟩ (.int .i64 ((u:Int)+1))).heap[w.heap.size]?=some (.cells #[.int .i64 0,.int .i64 0] 109 (0,0)):=block_far' HL.out (fun e=>hqr e.symm) _
 generalize (((w.alloc mvZ).drewN nq).setCell ⟨g.r,7,none⟩ (.int .i64 ((u:Int)+1)))=W at *
 have k4:=HA.rh.runCells.2.2.2.2.1
 have k7:=HA.rh.runCells.2.2.2.2.2.2.2.1
 have ki:=Bl.cell HA.rh.bl HX0.out
 have e7:h.uses.sh.used=(u:Int)+1:=by unfold Hp.uses;dsimp only;rw [HU.out]
 have e4:h.uses.input=h.input:=rfl
 rw [e7] at k7
 rw [e4,HI.out] at k4
 have hwl:=lt_some b0
 have n1:w.heap.size≠g.r:=fun e=>hqr e.symm
 have n2:w.heap.size≠ib:=by omega
 replace HA:=hid HA
 replace b0:=hid b0
 clear HHR e7 e4
 go_region_held3 (fun w'=>w'.cell? ⟨g.r,4,none⟩=some (.slice (some ⟨ib,io,none⟩) h.input.length g.i)∧w'.cell? ⟨g.r,7,none⟩=some (.int .i64 ((u:Int)+1))∧w'.cell? ⟨ib,io+u,none⟩=some (.int .i64 V))
  (go_keep)
  (first
   | (go_at_call 99;refine (mlong_any V _).mono ?_;rintro e w2 ⟨rfl,b2⟩;have d4:=b2.cell k4;have d7:=b2.cell k7;have di:=b2.cell ki;have q0:=bl_blk b2 b0.out;have r0:=c0_of q0;have r1:=c1_of q0;have rz:=free_blk q0;replace b2:=hid b2;replace q0:=hid q0))
 go_wp2
 refine bodyPost_ret (results_cell_row rfl _ _ w.heap.size _ _ _ _ rfl (set_two q0.out) Try.underlying109 rfl info_mv) rfl ?_
 refine ⟨rfl,RXY.x (RXY.set (Y:=fun b=>b=w.heap.size) (b:=w.heap.size) (RXY.set (Y:=fun b=>b=w.heap.size) (b:=w.heap.size) ⟨vc,vo,vx,vs,l,HA.out.bl ((Bl.refl _).drew.trans b2.out),fun b hb=>?_⟩ rfl 0 _) rfl 1 _)⟩
 subst hb
 exact ⟨lt_some q0.out,hbs,HFx.out,HFar.out,HFac.out⟩
end
end Go.Proofs.Ytgiiapenmjollaa
