import Derived.Test.YtgiiapenmjollaaGreatSsas
namespace Go.Proofs.YtgiiapenmjollaaGreat
set_option linter.all false
set_option maxHeartbeats 40000000
set_option maxRecDepth 100000
open Go.RowKit
theorem pars_fit (h:Hp) (n:Nat):∀(ps:List Ty) (args:List Int),args.length=ps.length→(∀t∈ps,tyB n t=true)→anyRef ps=false→FitL h ps (parsV ps args)
 | [],[],_,_,_=>FitL.nil h
 | [],_::_,e,_,_=>by simp at e
 | _::_,[],e,_,_=>by simp at e
 | t::ps,a::args,e,ht,hr=>by
  have hr':t.kind≠3∧anyRef ps=false:=by
   unfold anyRef at hr ⊢
   rw [List.any_cons,Bool.or_eq_false_iff] at hr
   exact ⟨of_decide_eq_false hr.1,hr.2⟩
  have ih:=pars_fit h n ps args (by simpa using e) (fun x hx=>ht x (List.mem_cons_of_mem _ hx)) hr'.2
  have h0:=of_decide_eq_true (ht t (List.mem_cons_self ..))
  refine ⟨by show ps.length+1=(parsV ps args).length+1;rw [←ih.1],fun j hj=>?_⟩
  cases j with
  | zero =>
   show FitV h t (parV t a)
   exact ⟨fun k=>k,fun k=>k,fun k=>absurd k hr'.1,fun k=>by omega⟩
  | succ j=>exact ih.2 j (by simpa using hj)
theorem play_safe (f:Fi) (ck:Checked f) (entry fuel:Int) (args input:List Int) (he:0≤entry∧entry≤(f.methods.length:Int)-1) (hf:0≤fuel) (hl:args.length=(nth me0 f.methods entry.toNat).params.length) (hr:anyRef (nth me0 f.methods entry.toNat).params=false):(playS f entry args input fuel).fin≠6:=by
 have hm:nth me0 f.methods entry.toNat∈f.methods:=nth_mem (by omega)
 have hg:Hg (heap0 f input fuel):=⟨ck.may,⟨fun n hn=>by simp [heap0] at hn,fun n hn=>by simp [heap0] at hn,fun n hn=>by simp [heap0] at hn⟩,rfl,rfl⟩
 have L:=run_safe (loop_safe f ck fuel.toNat) ck (h:=heap0 f input fuel) rfl hg hm (pars_fit _ f.classes.length _ args hl (smeP (ck.me _ hm)).2.2.2.2.2.2.2.2.1 hr) (by show fuel-0≤fuel.toNat;omega)
 have L:LeftS (heap0 f input fuel) _ (playR f entry args input fuel):=L
 have ok:=L.ok
 unfold playS
 generalize playR f entry args input fuel=R at ok ⊢
 unfold Hp.doneH
 split
 ·rename_i ho;exact ok ho
 ·split
  ·show (2:Int)≠6;decide
  ·split<;>(show (1:Int)≠6;decide)
end Go.Proofs.YtgiiapenmjollaaGreat
