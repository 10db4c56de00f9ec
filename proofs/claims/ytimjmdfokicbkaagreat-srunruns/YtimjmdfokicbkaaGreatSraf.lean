import Derived.Test.YtimjmdfokicbkaaGreatSrae
namespace Go.Proofs.YtimjmdfokicbkaaGreat
set_option linter.unusedVariables false
set_option linter.unusedSimpArgs false
set_option maxHeartbeats 40000000
set_option maxRecDepth 100000
open Go.RowKit
open Go.Value (int)
open Go.IntKind (i64)
variable {h:Hp} {j o:Nat} {v:Va}
section
open Go.Maps (Keyed has)
theorem jl (ho:o<h.objs.length):nth cA (h.setV o j v).objs o={ nth cA h.objs o with held:=(nth cA h.objs o).held.set j { nth cG (nth cA h.objs o).held j with v:=v } }:=fe ho
theorem iO {o':Nat} (hn:o≠o'):nth cA (h.setV o j v).objs o'=nth cA h.objs o':=dY hn
theorem mz.put {w w':World} {mp n:Nat} {D:DataW Nat} (F:mz 1 w mp h n D) {cc k:Nat} (ho:o<h.objs.length) (hl:h.objs.length≤100) (hj:j<(nth cA h.objs o).held.length) (hc:(nth cG (nth cA h.objs o).held j).cls=(cc:Int)) (hk:(nth cG (nth cA h.objs o).held j).fld=(k:Int)) (ic:cP (cc:Int)) (ik:cP (k:Int)) (hv:v.kind=(dW h.file.classes cc k).kind) (hw:w'.ownsMap Tryz.prog 261 ft mp (n+1) (D.put (jW ((o:Int)+1) cc k) (KU (im v)))):mz 0 w' mp (h.setV o j v) (n+1) (D.put (jW ((o:Int)+1) cc k) (KU (im v))):=by
 have hm:=F.own.isMap
 have hlen:(h.setV o j v).objs.length=h.objs.length:=by simp [Hp.setV]
 have jB:(h.setV o j v).file=h.file:=rfl
 have io:∀o':Nat,o'≤100->cP ((o':Int)+1):=fun o' h'=>by unfold cP;omega
 have RP:∀(o':Nat) (c' k':Int),o'≤100->cP c'->cP k'->¬(o'=o/\c'=cc/\k'=k)->jW ((o':Int)+1) c' k'≠jW ((o:Int)+1) cc k:=fun o' c' k' h1 h2 h3 hne e=>by
  obtain ⟨e1,e2,e3⟩:=DE (io o' h1) h2 h3 (io o (by omega)) ic ik e
  exact hne ⟨by omega,e2,e3⟩
 have Uc:=F.ks o ho
 have La:∀x∈((nth cA h.objs o).held.set j { nth cG (nth cA h.objs o).held j with v:=v }),(x.cls=(cc:Int)/\x.fld=(k:Int))->x.v=v:=by
  intro x hx G9
  obtain ⟨i,hi,rfl⟩:=zY (d:=cG) hx
  rw [List.length_set] at hi
  by_cases e:j=i
  ·subst e;rw [fe hj]
  ·exfalso
   rw [dY e] at G9
   exact e (Ex Uc hj hi (by simp only [kc];rw [hc,hk,G9.1,G9.2]))
 have hold:∀x∈((nth cA h.objs o).held.set j { nth cG (nth cA h.objs o).held j with v:=v }),¬(x.cls=(cc:Int)/\x.fld=(k:Int))->x∈(nth cA h.objs o).held:=by
  intro x hx G9
  obtain ⟨i,hi,rfl⟩:=zY (d:=cG) hx
  rw [List.length_set] at hi
  by_cases e:j=i
  ·subst e
   rw [fe hj] at G9
   exact absurd ⟨hc,hk⟩ G9
  ·rw [dY e];exact bE hi
 refine ⟨hw,by have:=F.few;show ((n+1:Nat):Int)+((0:Nat):Int)≤h.sh.steps;omega,fun o' c' k' v' pQ Lb Lc hx hh z=>?_,fun o' c' k' v' pQ Lb Lc hx hh=>?_,fun o' c' k' pQ IK Lb Lc=>?_,fun o' pQ=>?_,fun o' pQ x hx=>?_⟩
 ·rw [hlen] at pQ
  by_cases e:o'=o/\c'=cc/\k'=k
  ·obtain ⟨rfl,rfl,rfl⟩:=e
   rw [jl ho] at hx
   obtain ⟨x,Bw,Ha,I1,rfl⟩:=hx
   rw [La x Bw ⟨Ha,I1⟩]
   exact Maps.atKey_put_same hm (jX.key (lT (io _ (by omega)) ic ik)) _ _
  ·have hne:=RP o' c' k' (by omega) Lb Lc e
   rw [Maps.has_put_other hne] at hh
   rw [Maps.atKey_put_other hne]
   refine F.hit o' c' k' v' pQ Lb Lc ?_ hh z
   by_cases e1:o'=o
   ·subst e1
    rw [jl ho] at hx
    obtain ⟨x,Bw,Ha,I1,OY⟩:=hx
    exact ⟨x,hold x Bw (fun q=>e ⟨rfl,by rw [<-Ha];exact q.1,by rw [<-I1];exact q.2⟩),Ha,I1,OY⟩
   ·rw [iO (fun q=>e1 q.symm)] at hx
    exact hx
 ·rw [hlen] at pQ
  by_cases e:o'=o/\c'=cc/\k'=k
  ·obtain ⟨rfl,rfl,rfl⟩:=e
   rw [Maps.has_put_same hm (jX.key (lT (io _ (by omega)) ic ik))] at hh
   exact absurd hh (by decide)
  ·have hne:=RP o' c' k' (by omega) Lb Lc e
   rw [Maps.has_put_other hne] at hh
   refine F.miss o' c' k' v' pQ Lb Lc ?_ hh
   by_cases e1:o'=o
   ·subst e1
    rw [jl ho] at hx
    obtain ⟨x,Bw,Ha,I1,OY⟩:=hx
    exact ⟨x,hold x Bw (fun q=>e ⟨rfl,by rw [<-Ha];exact q.1,by rw [<-I1];exact q.2⟩),Ha,I1,OY⟩
   ·rw [iO (fun q=>e1 q.symm)] at hx
    exact hx
 ·rw [hlen] at pQ
  have hne:=RP o' c' k' IK Lb Lc (fun q=>by omega)
  rw [Maps.has_put_other hne]
  exact F.new o' c' k' pQ IK Lb Lc
 ·rw [hlen] at pQ
  by_cases e1:o'=o
  ·subst e1
   rw [jl ho]
   have:=Ey hj v
   exact this.trans Uc
  ·rw [iO (fun q=>e1 q.symm)]
   exact F.ks o' pQ
 ·rw [hlen] at pQ
  by_cases e1:o'=o
  ·subst e1
   rw [jl ho] at hx
   by_cases e2:x.cls=(cc:Int)/\x.fld=(k:Int)
   ·rw [La x hx e2,e2.1,e2.2,jB]
    exact hv
   ·exact F.kd o' ho x (hold x hx e2)
  ·rw [iO (fun q=>e1 q.symm)] at hx
   exact F.kd o' pQ x hx
theorem lZ.putF {X:Nat->Prop} {wx w0 w w2:World} {g:Mg} {h':Hp} {qs:List Nat} {a:Mc} {c:aH} {vc vo vx vs:Value} {l:List Va} {n:Nat} {D:DataW Nat} (H:lZ 1 X wx w0 g w h qs a c vc vo vx vs l) (hg:w.grownBy w2 (some g.mp)) (F:mz 0 w2 g.mp h' n D) (e1:h'.file=h.file) (e2:h'.input=h.input) (e3:h'.fuel=h.fuel) (e4:h'.sh=h.sh) (e5:h'.objs.map (fun o=>Value.int .i64 o.cls)=h.objs.map (fun o=>Value.int .i64 o.cls)) :
  lZ 0 X wx w0 g w2 h' qs a c vc vo vx vs l:=by
 have R:=H.rh
 obtain ⟨n0,D0,F0⟩:=R.fld
 obtain ⟨fr,fh,fm,fc,fo,fx⟩:=H.ca.farC R
 have n1:(some g.mp:Option Nat)≠some g.r:=fun e=>iy R.run F0.own (Option.some.inj e).symm
 have n2:(some g.mp:Option Nat)≠some g.hb:=fun e=>iy R.hp F0.own (Option.some.inj e).symm
 have r1:gM g h' vc vx=gM g h vc vx:=by unfold gM;rw [e1,e2,e3,e4]
 have r2:fD g h' vo=fD g h vo:=by unfold fD;rw [e1]
 have hlen:h'.objs.length=h.objs.length:=by have:=congrArg List.length e5;simpa using this
 refine ⟨⟨R.ownr,R.ownh,R.ownm,Below.grown R.bl hg R.bl.size (fun k e=>by cases e;exact R.ownm),by rw [r1];exact aZ hg R.run n1,by rw [r2];exact aZ hg R.hp n2,by rw [e4];exact R.out.kept hg (Or.inr (lu R.out F0.own)),
  by rw [hlen,e5];exact R.obs.kept hg (Or.inr (lu R.obs F0.own)),R.calls.kept hg (Or.inr (lu R.calls F0.own)),n,D,F⟩,H.ca.kept hg (fun b e=>by cases e;exact fm),H.farr,H.farc,H.kept.kept hg (fun b e hx=>by cases e;exact (H.farr _ hx).m rfl)⟩
theorem I2:(h.setV o j v).objs.map (fun o=>Value.int .i64 o.cls)=h.objs.map (fun o=>Value.int .i64 o.cls):=by
 apply List.ext_getElem
 ·simp [Hp.setV]
 ·intro i h1 h2
  simp only [Hp.setV,List.getElem_map,List.getElem_set]
  split
  ·rename_i e
   subst e
   have hi:o<h.objs.length:=by simpa [Hp.setV] using h1
   rw [bP hi]
  ·rfl
theorem BO (X:Nat->Prop) (wx w0:World) (g:Mg) (h:Hp) (qs:List Nat) (a:Mc) (c:aH) (o j cc k:Nat) (v:Va) (w:World) (H:RX 1 X wx w0 g w h qs a c) (ho:o<h.objs.length) (hl:h.objs.length≤100) (hst:h.sh.steps≤100000) (hj:j<(nth cA h.objs o).held.length) (hc:(nth cG (nth cA h.objs o).held j).cls=(cc:Int)) (hk:(nth cG (nth cA h.objs o).held j).fld=(k:Int)) (pN:cc≤12) (h6:k≤12) (hv:v.kind=(dW h.file.classes cc k).kind) :
  Calls Tryz.prog 199 #[.pointer (some ⟨g.hb,0,none⟩),cn ⟨3,(o:Int)+1⟩,int i64 cc,int i64 k,cn (im v)] w fun e w'=>e=.returned (.tuple #[])/\RX 0 X wx w0 g w' (h.setV o j v) qs a c:=by
 have io:cP ((o:Int)+1):=by unfold cP;omega
 have ic:cP (cc:Int):=by unfold cP;omega
 have ik:cP (k:Int):=by unfold cP;omega
 obtain ⟨vc,vo,vx,vs,l,H⟩:=H
 obtain ⟨n,D,F⟩:=H.rh.fld
 have hn:n<maxLen:=by have:=F.few;unfold maxLen;omega
 have mK:Hid (∀w,Calls Tryz.prog 232 #[.pointer (some ⟨g.hb,0,none⟩),cn ⟨3,(o:Int)+1⟩,int i64 (cc:Int),int i64 (k:Int)] w fun e w'=>e=.returned (jf ((o:Int)+1) cc k)/\Bl w w'):=fun w=>lB g.hb ⟨3,o⟩ cc k rfl (by simp) w
 have Ud:Hid (∀w2,Bl w w2->∃w3,(Instr.mapUpdate 171 (.map (some g.mp)) (jf ((o:Int)+1) cc k) (cn (im v))).run Tryz.prog w2=.ok () w3/\w2.grownBy w3 (some g.mp)/\RX 0 X wx w0 g w3 (h.setV o j v) qs a c):=fun w2 hb=>by
  have F2:=F.own.kept (dx hb none) (by simp)
  obtain ⟨w3,h1,h2,h3⟩:=F2.update jX Tryz.underlying171 hn (lT io ic ik) (sa (im v))
  have F3:mz 1 w2 g.mp h n D:=⟨F2,F.few,F.hit,F.miss,F.new,F.ks,F.kd⟩
  exact ⟨w3,h1,h3,vc,vo,vx,vs,l,(H.bl hb).putF h3 (F3.put ho hl hj hc hk ic ik hv h2) rfl rfl rfl rfl I2⟩
 obtain ⟨vn,Ld⟩:∃vn:Int,(o:Int)+1=vn:=⟨_,rfl⟩
 rw [Ld] at mK Ud ⊢
 obtain ⟨L0,L1⟩:=bC w #[int i64 3,int i64 vn] #[int i64 (im v).kind,int i64 (im v).n] 98 98
 have HB:Hid (Bl w ((w.alloc (dL ⟨3,vn⟩)).alloc (dL (im v)))):=((Bl.refl w).alloc _).alloc _
 have z0:=ab (aK L0)
 have z1:=ab (aI L0)
 have z2:=ab (aK L1)
 have z3:=ab (aI L1)
 have zm:Hid (((w.alloc (dL ⟨3,vn⟩)).alloc (dL (im v))).cell? ⟨g.hb,2,none⟩=some (.map (some g.mp))):=Bl.cell HB.out H.rh.heapCells.2.2
 have I3:=F.own.lt
 have eZ:g.hb≠g.mp:=iy H.rh.hp F.own
 have DR:w.heap.size≠g.mp:=by omega
 have DS:w.heap.size+1≠g.mp:=by omega
 clear H F L0 L1 io ic ik Ld hn hv hc hk hj
 go_enter Tryz.func199,Tryz.ntmps199
 go_wp2
 refine wp_region_held_drew (S:=fun w'=>w'.cell? ⟨g.hb,2,none⟩=some (.map (some g.mp))/\w'.cell? ⟨w.heap.size,0,none⟩=some (int i64 3)/\w'.cell? ⟨w.heap.size,1,none⟩=some (int i64 vn)/\w'.cell? ⟨w.heap.size+1,0,none⟩=some (int i64 (im v).kind)/\w'.cell? ⟨w.heap.size+1,1,none⟩=some (int i64 (im v).n)) (by kernel_rfl) ?_ (fun ae=>?_)
 ·exact ⟨zm.out,z0.out,z1.out,z2.out,z3.out⟩
 iterate 9 (refine tn rfl rfl rfl (by kernel_rfl) (fun _ _ _ h=>h) (by rfl) (by intro _ h;(try dsimp only at h);go_split_ands;go_simp<;>with_reducible rfl) ae ?_;try simp only [aS,aN,aT,a0,a1])
 refine bJ (i:=8) (by kernel_rfl) rfl fun K hK=>?_
 go_simp
 go_at_call 232
 refine (mK.out _).mono ?_
 rintro e w2 ⟨rfl,b2⟩
 have d0:=ab (b2.cell ae.1)
 have d1:=ab (b2.cell ae.2.1)
 have d2:=ab (b2.cell ae.2.2.1)
 have d3:=ab (b2.cell ae.2.2.2.1)
 have d4:=ab (b2.cell ae.2.2.2.2)
 replace b2:=ab b2
 go_wp2_with fail
 refine hK.out _ _ (⟨d0.out,d1.out,d2.out,d3.out,d4.out⟩) (fun ah=>?_)
 try simp only [aS,aN,aT,a0,a1]
 refine bJ (i:=10) (by kernel_rfl) rfl fun K hK=>?_
 obtain ⟨w3,hu,vm,H3⟩:=Ud.out _ (HB.out.drew.trans b2.out)
 replace H3:=ab H3
 go_wp2_with fail
 refine hK.out _ _ (⟨vm.cell d0.out (fun e=>eZ (Option.some.inj e)),vm.cell d1.out (fun e=>DR (Option.some.inj e)),vm.cell d2.out (fun e=>DR (Option.some.inj e)),vm.cell d3.out (fun e=>DS (Option.some.inj e)),vm.cell d4.out (fun e=>DS (Option.some.inj e))⟩) (fun aX=>?_)
 try simp only [aS,aN,aT,a0,a1]
 refine wpAnyH_done (by kernel_rfl) ?_ _
 go_wp2
 go_end0
 exact ⟨rfl,H3.out⟩
theorem BP (s:Nat) (X:Nat->Prop) (wx w0:World) (g:Mg) (h:Hp) (qs:List Nat) (a:Mc) (c:aH) (v u:Va) (cc k:Int) (w:World) (H:RX s X wx w0 g w h qs a c) (hl:h.objs.length≤100) (ho:h.over=false) (hk:v.kind=3) (hv:v.n=-1) :
  Calls Tryz.prog 199 #[.pointer (some ⟨g.hb,0,none⟩),cn (im v),int i64 cc,int i64 k,cn u] w fun e w'=>e=bL h/\RX s X wx w0 g w' (h.raise 1) qs a c:=by
 have e:im v=⟨3,0⟩:=by rw [gq hk,hv];rfl
 have mK:Hid (∀w,RX s X wx w0 g w h qs a c->Calls Tryz.prog 232 #[.pointer (some ⟨g.hb,0,none⟩),cn ⟨3,0⟩,int i64 cc,int i64 k] w fun e w'=>e=bL h/\RX s X wx w0 g w' (h.raise 1) qs a c):=fun w H=>e▸oZ s X wx w0 g h qs a c v cc k w H hl ho hk hv
 rw [e]
 obtain ⟨L0,L1⟩:=bC w #[int i64 3,int i64 0] #[int i64 u.kind,int i64 u.n] 98 98
 have HB:Hid (Bl w ((w.alloc (dL ⟨3,0⟩)).alloc (dL u))):=((Bl.refl w).alloc _).alloc _
 have HH:=ab H
 have z0:=ab (aK L0)
 have z1:=ab (aI L0)
 have z2:=ab (aK L1)
 have z3:=ab (aI L1)
 have zm:Hid (((w.alloc (dL ⟨3,0⟩)).alloc (dL u)).cell? ⟨g.hb,2,none⟩=some (.map (some g.mp))):=by
  obtain ⟨vc,vo,vx,vs,l,H⟩:=H
  exact Bl.cell HB.out H.rh.heapCells.2.2
 obtain ⟨E,hE⟩:∃E,bL h=E:=⟨_,rfl⟩
 have HX:Hid (∃ch,E=.panicked ch):=by
  rw [<-hE];unfold bL;split<;>exact ⟨_,rfl⟩
 rw [hE] at mK ⊢
 clear hk hv e H hl ho hE L0 L1
 obtain ⟨ch,rfl⟩:=HX.out
 go_enter Tryz.func199,Tryz.ntmps199
 go_wp2
 refine wp_region_held_drew (S:=fun w'=>w'.cell? ⟨g.hb,2,none⟩=some (.map (some g.mp))/\w'.cell? ⟨w.heap.size,0,none⟩=some (int i64 3)/\w'.cell? ⟨w.heap.size,1,none⟩=some (int i64 0)/\w'.cell? ⟨w.heap.size+1,0,none⟩=some (int i64 u.kind)/\w'.cell? ⟨w.heap.size+1,1,none⟩=some (int i64 u.n)) (by kernel_rfl) ?_ (fun ae=>?_)
 ·exact ⟨zm.out,z0.out,z1.out,z2.out,z3.out⟩
 iterate 9 (refine tn rfl rfl rfl (by kernel_rfl) (fun _ _ _ h=>h) (by rfl) (by intro _ h;(try dsimp only at h);go_split_ands;go_simp<;>with_reducible rfl) ae ?_;try simp only [aS,aN,aT,a0,a1])
 refine bJ (i:=8) (by kernel_rfl) rfl fun K hK=>?_
 go_simp
 go_at_call 232
 refine (mK.out _ (HH.out.bl HB.out.drew)).mono ?_
 rintro e w2 ⟨rfl,H2⟩
 exact ⟨rfl,rfl,H2⟩
end
end Go.Proofs.YtimjmdfokicbkaaGreat
