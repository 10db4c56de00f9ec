import Derived.Test.YtgiiapenmjollaaSlbn
namespace Go.Proofs.Ytgiiapenmjollaa
set_option linter.all false
set_option maxHeartbeats 40000000
open Go.RowKit
section
open Go.Maps (Keyed has)
set_option maxRecDepth 100000 in
theorem handle_op16 (X:Nat→Prop) (wx w0:World) (g:Mg) (h:Hp) (qs:List Nat) (a:Mc) (c:Cal) (ia ib ic ii:Int) (args:List Int) (Q:Option Addr) (nl q:Nat) (w:World) (H:RX 1 X wx w0 g w h qs a c) (hs:h.stops=false) (hl:c.stk.length≤1000) (F:Fix w0 g h) (hob:h.objs.length≤100) (hst:∀v∈c.stk,v.kind=3→-1≤v.n∧v.n<h.objs.length) (hfl:0≤ia∧ia<h.file.classes.length∧0≤ib∧ib<(nth cl0 h.file.classes ia.toNat).fields.length) (hsp:h.sh.steps≤100000) :
  Calls Try.prog 121 #[.pointer (some ⟨a.q,0,none⟩),.agg #[.int .i64 16,.int .i64 ia,.int .i64 ib,.int .i64 ic,.int .i64 ii,.slice Q nl q]] w fun e w'=>DidQ X wx w0 g qs a c (doesP h c ⟨16,ia,ib,ic,ii,args⟩) e w':=by
 have ho:=hs_over hs
 have hd:doesP h c ⟨16,ia,ib,ic,ii,args⟩=setP h c ⟨16,ia,ib,ic,ii,args⟩:=rfl
 rw [hd]
 have s6:=fin_stops hs 6
 have mb:∀b,h.mustB b=b:=fun b=>by unfold Hp.mustB;rw [ho];simp
 have fa:=fun hn=>handle_op16a X wx w0 g h qs a c ia ib ic ii args Q nl q w H hs hl F hob hst hfl hn
 have fin6':(setP h c ⟨16,ia,ib,ic,ii,args⟩).h=h.fin 6→∀{P:Ending→World→Prop},(Calls Try.prog 121 #[.pointer (some ⟨a.q,0,none⟩),.agg #[.int .i64 16,.int .i64 ia,.int .i64 ib,.int .i64 ic,.int .i64 ii,.slice Q nl q]] w fun e w'=>DidQ X wx w0 g qs a c ⟨h.fin 6,c,0⟩ e w')→Calls Try.prog 121 #[.pointer (some ⟨a.q,0,none⟩),.agg #[.int .i64 16,.int .i64 ia,.int .i64 ib,.int .i64 ic,.int .i64 ii,.slice Q nl q]] w fun e w'=>DidQ X wx w0 g qs a c (setP h c ⟨16,ia,ib,ic,ii,args⟩) e w':=fun e1 P hc=>hc.mono fun e w' q=>did_chg (d:=⟨h.fin 6,c,0⟩) e1.symm s6 q
 rcases stk_one (c:=c) with h0|⟨l1,v,h0⟩
 ·refine fin6' ?_ (P:=fun _ _=>True) (fa (Or.inl h0))
  unfold setP
  dsimp only
  have hn:c.has 2=false:=by unfold Cal.has;rw [h0];rfl
  rw [must_no hn,if_pos (fin6 ho 6).1]
 have hvg:=hst v (by rw [h0];simp)
 have no2:l1=[]→(setP h c ⟨16,ia,ib,ic,ii,args⟩).h=h.fin 6:=fun e=>by
  unfold setP
  dsimp only
  have hn:c.has 2=false:=by unfold Cal.has;rw [h0,e];rfl
  rw [must_no hn,if_pos (fin6 ho 6).1]
 have two:∀l u,l1=l++[u]→(setP h c ⟨16,ia,ib,ic,ii,args⟩).h=(if isRef u=true then h.put u ia ib v else h.fin 6)∧(setP h c ⟨16,ia,ib,ic,ii,args⟩).c={ c with stk:=l }∧(setP h c ⟨16,ia,ib,ic,ii,args⟩).nx=c.pc+1:=fun l u e=>by
  have h00:c.stk=l++[u,v]:=by rw [h0,e];simp
  obtain ⟨k1,k2,k3,k4⟩:=has_two h00
  unfold setP
  dsimp only
  rw [must_yes k1,k2,k3,k4,if_neg (by rw [ho];decide),mb]
  refine ⟨?_,rfl,rfl⟩
  split
  ·rfl
  ·rename_i hr
   exact must_no (by simpa using hr)
 cases hof:h.of v (fieldT h.file.classes ia ib) with
 | false =>
  refine fin6' ?_ (P:=fun _ _=>True) (fa (Or.inr ⟨l1,v,h0,hvg,hof⟩))
  rcases List.eq_nil_or_concat l1 with e|⟨l,u,e⟩
  ·exact no2 e
  ·rw [List.concat_eq_append] at e
   rw [(two l u e).1]
   split
   ·unfold Hp.put
    rw [hof,mb,if_neg (by decide),must_no rfl]
   ·rfl
 | true =>
  have fb:=fun hn=>handle_op16b X wx w0 g h qs a c ia ib ic ii args Q nl q w H hs hl F hob hst hfl l1 v h0 hof hn
  rcases List.eq_nil_or_concat l1 with e|⟨l,u,e⟩
  ·exact fin6' (no2 e) (P:=fun _ _=>True) (fb (Or.inl e))
  rw [List.concat_eq_append] at e
  obtain ⟨t1,t2,t3⟩:=two l u e
  have hug:=hst u (by rw [h0,e];simp)
  cases hou:h.of u ⟨3,ia⟩ with
  | false =>
   refine fin6' ?_ (P:=fun _ _=>True) (fb (Or.inr ⟨l,u,e,hug,hou⟩))
   rw [t1]
   split
   ·have e1:h.findN u ia ib=-1:=by unfold Hp.findN;rw [hou,mb,if_neg (by decide)]
    have e2:h.findH u ia=h.fin 6:=by unfold Hp.findH;rw [hou,mb,if_neg (by decide),must_no rfl]
    unfold Hp.put
    rw [hof,mb,if_pos rfl,e1,if_pos (by decide),e2]
   ·rfl
  | true =>
   have hku:u.kind=3:=of_ref hou
   have hu3:=hug hku
   have hir:isRef u=true:=decide_eq_true hku
   rw [hir,if_pos rfl] at t1
   by_cases hun:u.n<0
   ·have e1:(setP h c ⟨16,ia,ib,ic,ii,args⟩).h=h.raise 1:=by
     rw [t1]
     have e1:h.findN u ia ib=-1:=by unfold Hp.findN;rw [hou,mb,if_pos rfl,if_pos hun]
     have e2:h.findH u ia=h.raise 1:=by unfold Hp.findH;rw [hou,mb,if_pos rfl,if_pos hun]
     unfold Hp.put
     rw [hof,mb,if_pos rfl,e1,if_pos (by decide),e2]
    exact (handle_op16c X wx w0 g h qs a c ia ib ic ii args Q nl q w H hs hl F hob hst hfl l1 v h0 hof l u e hou hun).mono fun e w' q=>did_chg (d:=⟨h.raise 1,c,0⟩) e1.symm (raise_stops hs 1) q
   ·obtain ⟨o,huo⟩:∃o:Nat,u.n=o:=⟨u.n.toNat,by omega⟩
    have hol:o<h.objs.length:=by omega
    have hobj:h.obj u.n=nth ob0 h.objs o:=by unfold Hp.obj;rw [huo,Int.toNat_natCast]
    have hbel:belI h.file.classes (nth ob0 h.objs o).cls ia=true:=by
     have hz':=hou
     unfold Hp.of at hz'
     rw [hobj] at hz'
     simp [hun] at hz'
     exact hz'.2
    obtain ⟨cc,rfl⟩:∃cc:Nat,ia=cc:=⟨ia.toNat,by omega⟩
    obtain ⟨k,rfl⟩:∃k:Nat,ib=k:=⟨ib.toNat,by omega⟩
    have hkf:k<(nth cl0 h.file.classes cc).fields.length:=by have:=hfl.2.2.2;rw [Int.toNat_natCast] at this;omega
    obtain ⟨j,j1,j2,j3,j4,j5⟩:=H.find hol hbel hkf
    have hfn:h.findN u cc k=j:=by
     unfold Hp.findN
     rw [hou,mb,if_pos rfl,if_neg hun,hobj]
     exact j2
    have e1:setP h c ⟨16,(cc:Int),(k:Int),ic,ii,args⟩=⟨h.setV o j v,{ c with stk:=l },c.pc+1⟩:=by
     have t1':(setP h c ⟨16,(cc:Int),(k:Int),ic,ii,args⟩).h=h.setV o j v:=by
      rw [t1]
      unfold Hp.put
      rw [hof,mb,if_pos rfl,hfn,if_neg (by omega)]
      have hfh:h.findH u cc=h:=by unfold Hp.findH;rw [hou,mb,if_pos rfl,if_neg hun]
      rw [hfh,huo,Int.toNat_natCast,Int.toNat_natCast]
     generalize setP h c ⟨16,(cc:Int),(k:Int),ic,ii,args⟩=d at t1' t2 t3
     obtain ⟨d1,d2,d3⟩:=d
     dsimp only at t1' t2 t3
     rw [t1',t2,t3]
    rw [e1]
    exact handle_op16d X wx w0 g h qs a c cc k ic ii args Q nl q w H hs hl F hob hst hfl l1 v h0 hof l u e hou o j huo hol j1 j3 j4 hsp
end
end Go.Proofs.Ytgiiapenmjollaa
