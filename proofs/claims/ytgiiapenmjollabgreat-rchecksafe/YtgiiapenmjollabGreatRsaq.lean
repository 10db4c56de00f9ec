import Derived.Test.YtgiiapenmjollabGreatRsap
namespace Go.Proofs.YtgiiapenmjollabGreat
set_option linter.all false
set_option maxHeartbeats 40000000
set_option maxRecDepth 100000
open Go.RowKit
structure Env (w0:World) (g:Ad) (h:Hp):Prop where
 cq:Cq w0 g h
 may:MayF h.file
 mes:MesAt w0 g.M h.file.methods
 inp:IntsAt w0 g.I h.input
theorem Env.of {w0:World} {g:Ad} {h h':Hp} (e:Env w0 g h) (e1:h'.file=h.file) (e2:h'.input=h.input):Env w0 g h' :=
 ⟨e.cq.same e1,by rw [e1];exact e.may,by rw [e1];exact e.mes,by rw [e2];exact e.inp⟩
theorem Env.le {w0:World} {g:Ad} {h h':Hp} (e:Env w0 g h) (l:Le h h'):Env w0 g h':=e.of l.file l.input
def RunOk (w0:World) (g:Ad) (p n:Nat):Prop :=
 ∀(h:Hp) (m:Me) (P CC K:Option Addr) (pp cc kk:Nat) (A:Option Addr) (ac lb:Nat) (l:List Va) (w:World),
  Hs w0 g w p h→Env w0 g h→h.over=false→h.thrown=-1→Gh 0 h→Kd h→MeAt w0 m P CC K→rmeB h.file.classes h.file.methods m=true→(∀i∈m.code,i.ok)→l.length=m.params.length→(∀v∈l,GdV h v)→StkAt lb w A l→l.length≤ac→(h.fuel-h.sh.steps).toNat≤n →
  Calls Tryz.prog 41 #[.pointer (some ⟨p,0,none⟩),meV m P CC K pp cc kk,.slice A l.length ac] w fun e w' =>
   e=.returned (vaV (runP (loopP n) h m l).2)∧Hs w0 g w' p (runP (loopP n) h m l).1∧Fr w0.heap.size g.T w w'
def doP (N:Nat) (h:Hp) (c:Cal) (i:In):Did:=if i.op=18 then callP (loopP N) h c i else doesP h c i
theorem do_kept {N:Nat} {h:Hp} {c:Cal} {i:In} (hmay:MayF h.file) (gh:Gh 1 h) (kd:Kd h) (gc:Gc h c) (ho:h.over=false) (hth:h.thrown=-1) (ok:InOk h.file.classes h.file.methods c.m.code.length c.m.regs c.m.ret.kind i) (iok:i.ok) (hr:i.op≠20) (hp:0≤c.pc∧c.pc<c.m.code.length):Kept h c (doP N h c i):=by
 unfold doP
 split
 ·rename_i e
  exact call_kept (loop_kept h.file hmay N) rfl gh.less kd gc ho hth hmay ok e hp
 ·rename_i e
  exact does_kept gh kd gc ho hth hmay.1 ok iok e hr hp
theorem fr_do {w0 w:World} {g:Ad} {p fn:Nat} {a:Ca} {c:Cal} {hf:Hp} {args:Array Value} {v:Value} (C:Tk g.T) (n7:¬heapT g.T 140) (hC:CalAt w0 w a c) (k:Calls Tryz.prog fn args w fun e w'=>e=.returned v∧Hs w0 g w' p hf∧Fr w0.heap.size g.T w w') :
  Calls Tryz.prog fn args w fun e w'=>e=.returned v∧Hs w0 g w' p hf∧CalAt w0 w' a c∧Fq w0.heap.size g.T a w w' :=
 k.mono fun e w' ⟨he,hs,f⟩=>⟨he,hs,hC.fr C n7 f,f.fq⟩
theorem rds_clr (c:Cal):∀(l:List Int) (k:List Ty),c.clr.rds l k=c.rds l k
 | [],k=>by cases k<;>rfl
 | _::_,[]=>rfl
 | a::l,t::k=>by show c.rd a::c.clr.rds l k=_;rw [rds_clr c l k];rfl
theorem rdsH_clr (c:Cal):∀(l:List Int) (k:List Ty) (h:Hp),h.rdsH c.clr l k=h.rdsH c l k
 | [],k,h=>by cases k<;>rfl
 | _::_,[],h=>rfl
 | a::l,t::k,h=>by show (h.rdH c a t.kind).rdsH c.clr l k=_;rw [rdsH_clr c l k];rfl
theorem do_any (w0:World) (g:Ad) (p:Nat) (h:Hp) (a:Ca) (c:Cal) (i:In) (Q:Option Addr) (q:Nat) (w:World) (hH:Hs w0 g w p h) (hC:CalAt w0 w a c.clr) (E:Env w0 g h) (hp:0≤c.pc∧c.pc≤100000) (n19:i.op≠19) (n20:i.op≠20) (n22:i.op≠22) (N:Nat) (IH:RunOk w0 g p N) (gh:Gh 1 h) (kd:Kd h) (ho:h.over=false) (hth:h.thrown=-1) (gc:Gc h c)
  {nc:Nat} {rt:Int} (ok:InOk h.file.classes h.file.methods nc c.m.regs rt i) (iok:i.ok) (hQ:IntsAt w0 Q i.args) (hN:(h.fuel-h.sh.steps).toNat≤N) :
  Calls Tryz.prog 89 #[.pointer (some ⟨p,0,none⟩),.pointer (some ⟨a.q,0,none⟩),.agg #[.int .i64 i.op,.int .i64 i.a,.int .i64 i.b,.int .i64 i.c,.int .i64 i.n,.slice Q i.args.length q]] w fun e w' =>
   e=.returned (.int .i64 (doP N h c i).nx)∧Hs w0 g w' p (doP N h c i).h∧CalAt w0 w' a (doP N h c i).c∧Fq w0.heap.size g.T a w w':=by
 have C:=E.cq
 have hlen:=gc.len
 have hL:c.clr.locs.length=c.locs.length:=rfl
 have ra:(i.op≤9∨(13≤i.op∧i.op≤17)∨i.op=19∨21≤i.op)→0≤i.a∧i.a<c.clr.locs.length:=fun x=>by have:=ok.a x;omega
 have r3:∀{n:Int},0≤n∧n<c.clr.locs.length→(c.clr.rd n).kind=3→(c.clr.rd n).n<h.objs.length:=fun {n} hn e=>((gc.rd (a:=n) (by omega)).ref e).2
 unfold doP
 by_cases h18:i.op=18
 ·rw [if_pos h18,h18]
  obtain ⟨c1,c2,c3⟩:=ok.call h18
  have hmm:=E.may.2 _ (nth_mem (d:=me0) (i:=i.a.toNat) (by omega:i.a.toNat<h.file.methods.length))
  have hpl:(nth me0 h.file.methods i.a.toNat).params.length≤4:=(smeP hmm.1).2.2.2.1
  unfold callP
  dsimp only
  generalize hMe:nth me0 h.file.methods i.a.toNat=M at *
  rw [←rdsH_clr c,←rds_clr c]
  have key:=ycall_any w0 g p h a c.clr i.a i.b i.c i.n i.args Q q w hH hC C hp E.mes M hMe ⟨c1,c2⟩ hQ c3 hpl (fun j hj=>by have:=ok.args h18 j hj;omega) (runP (loopP N) (h.rdsH c.clr i.args M.params) M (c.clr.rds i.args M.params))
   (if (h.rdsH c.clr i.args M.params).over=true then h.rdsH c.clr i.args M.params else (runP (loopP N) (h.rdsH c.clr i.args M.params) M (c.clr.rds i.args M.params)).1)
   (if (h.rdsH c.clr i.args M.params).over=true then c.clr else { c.clr with giv:=(runP (loopP N) (h.rdsH c.clr i.args M.params) M (c.clr.rds i.args M.params)).2 })
   (fun e=>⟨if_pos e,if_pos e⟩) (fun e=>⟨if_neg (by rw [e];decide),if_neg (by rw [e];decide)⟩)
   (fun e P CC K pp cc kk A1 ac lb w1 me1 hs1 st1 hac=>by
    have e1:h.rdsH c.clr i.args M.params=h:=rdsH_go c.clr i.args M.params e
    rw [e1] at hs1
    rw [e1]
    have:=IH h M P CC K pp cc kk A1 ac lb (c.clr.rds i.args M.params) w1 hs1 E ho hth gh.less kd me1 hmm.1 hmm.2 (rds_length c.clr _ _ c3) (rds_gd gc.clr _ _ (ok.args h18)) st1 (by rw [rds_length c.clr _ _ c3];exact hac) hN
    rw [rds_length c.clr _ _ c3] at this
    exact this)
  refine key.mono fun e w' ⟨he,hs,hc,hf⟩=>?_
  split
  ·rename_i hx
   rw [if_pos hx] at hs hc
   exact ⟨he,hs,hc,hf⟩
  ·rename_i hx
   rw [if_neg hx] at hs hc
   exact ⟨he,hs,hc,hf⟩
 rw [if_neg h18]
 unfold doesP
 by_cases e:i.op=10
 ·rw [if_pos e,e]
  exact fr_do C.k C.n7 hC (qdoes_op10 w0 g p h a c.clr i.a i.b i.c i.n Q i.args.length q w hH hC C hp)
 rw [if_neg e]
 by_cases e1:i.op=11
 ·rw [if_pos e1,e1]
  have hr:0≤i.c∧i.c<c.clr.locs.length:=by have:=ok.c (by omega);omega
  unfold ifP
  dsimp only
  cases hh:hldB i.b (c.rd i.c).n
  ·rw [if_neg (by decide)]
   exact fr_do C.k C.n7 hC (qdoes_op11n w0 g p h a c.clr i.a i.b i.c i.n Q i.args.length q w hH hC C hp hr hh)
  ·rw [if_pos rfl]
   exact fr_do C.k C.n7 hC (qdoes_op11y w0 g p h a c.clr i.a i.b i.c i.n Q i.args.length q w hH hC C hp hr hh)
 rw [if_neg e1]
 by_cases e2:i.op=12
 ·rw [if_pos e2,e2]
  have hr:0≤i.c∧i.c<c.clr.locs.length:=by have:=ok.c (by omega);omega
  unfold ifnP
  dsimp only
  by_cases hh:(c.rd i.c).n<0
  ·rw [if_pos hh]
   exact fr_do C.k C.n7 hC (qdoes_op12y w0 g p h a c.clr i.a i.b i.c i.n Q i.args.length q w hH hC C hp hr (decide_eq_true hh))
  ·rw [if_neg hh]
   exact fr_do C.k C.n7 hC (qdoes_op12n w0 g p h a c.clr i.a i.b i.c i.n Q i.args.length q w hH hC C hp hr (decide_eq_false hh))
 rw [if_neg e2]
 by_cases e3:i.op=15
 ·rw [if_pos e3,e3]
  have hr:0≤i.b∧i.b<c.clr.locs.length:=by have:=ok.b (by omega);omega
  have hra:=ra (by omega)
  have hfl:=ok.fld (Or.inr e3)
  unfold putP
  dsimp only
  exact fr_do C.k C.n7 hC (qdoes_op15 w0 g p h a c.clr i.a i.b i.c i.n Q i.args.length q w hH hC C hp hr hra hfl ⟨r3 hr,r3 hra⟩ _ (fun e=>if_pos e) (fun e=>if_neg (fun x=>by rw [show ((h.rdH c i.b 3).rdH c i.a (fieldT h.file.classes i.c i.n).kind).over=false from e] at x;cases x)))
 rw [if_neg e3]
 by_cases e4:i.op=16
 ·rw [if_pos e4,e4]
  have hra:=ra (by omega)
  unfold castP
  cases hov:(h.rdH c i.a 3).over
  ·rw [if_neg (by decide)]
   exact fr_do C.k C.n7 hC (qdoes_op16 w0 g p h a c.clr i.a i.b i.c i.n Q i.args.length q w hH hC C hp hra hov (by rw [rdH_objs];exact r3 hra))
  ·rw [if_pos rfl]
   exact fr_do C.k C.n7 hC (qdoes_op16o w0 g p h a c.clr i.a i.b i.c i.n Q i.args.length q w hH hC C hp hra hov)
 rw [if_neg e4,if_neg n19]
 by_cases e5:i.op=21
 ·rw [if_pos e5,e5]
  have hra:=ra (by omega)
  unfold thrP
  cases hov:(h.rdH c i.a 3).over
  ·rw [if_neg (by decide)]
   exact fr_do C.k C.n7 hC (qdoes_op21 w0 g p h a c.clr i.a i.b i.c i.n Q i.args.length q w hH hC C hp hra hov)
  ·rw [if_pos rfl]
   exact fr_do C.k C.n7 hC (qdoes_op21o w0 g p h a c.clr i.a i.b i.c i.n Q i.args.length q w hH hC C hp hra hov)
 rw [if_neg e5,if_neg n22]
 by_cases e6:i.op=23
 ·rw [if_pos e6,e6]
  have hra:=ra (by omega)
  unfold emitP
  cases hov:(h.rdH c i.a i.b).over
  ·rw [if_neg (by decide)]
   exact fr_do C.k C.n7 hC (qdoes_op23 w0 g p h a c.clr i.a i.b i.c i.n Q i.args.length q w hH hC C hp hra hov (by
    have e7:h.rdH c.clr i.a i.b=h:=(rdH_go (h:=h) (c:=c) (a:=i.a) (k:=i.b) hov).2.1
    rw [e7]
    have:=gh.out
    have:=gh.steps
    have:=gh.fuel
    omega))
  ·rw [if_pos rfl]
   exact fr_do C.k C.n7 hC (qdoes_op23o w0 g p h a c.clr i.a i.b i.c i.n Q i.args.length q w hH hC C hp hra hov)
 rw [if_neg e6]
 have hop:=ok.op
 have hra:=ra (by omega)
 have hg:=fun hs=>givesV_ok gh kd gc ho hth E.may.1 ok iok (by omega) hs
 have:=qdoes_gives w0 g p h a c.clr i.op i.a i.b i.c i.n i.args Q i.args.length q w hH hC C hp ⟨e,e1,e2,h18,e5,e3,e4,e6⟩
  ⟨by omega,fun x=>by have:=ok.b (by omega);omega,fun x=>by have:=ok.c (by omega);omega,fun x=>⟨(gc.rd (a:=i.b) (by have:=ok.b (by omega);omega)).num,(gc.rd (a:=i.c) (by have:=ok.c (by omega);omega)).num⟩,fun x=>ok.cls (Or.inl x),fun x=>r3 (by have:=ok.b (by omega);omega),E.inp,gh.used⟩
  (givesH_le h c _).file hra (fun hs=>⟨gc.ok,fun x=>by have:=(hg hs).2.2 x;omega⟩)
 exact this
theorem run_no (w0:World) (g:Ad) (p:Nat) (h:Hp) (m:Me) (P CC KA:Option Addr) (pp cc kk:Nat) (A:Option Addr) (ac lb:Nat) (l:List Va) (w:World) (hH:Hs w0 g w p h) (E:Env w0 g h) (ho:h.over=false) (gh:Gh 0 h) (hme:MeAt w0 m P CC KA) (hl:l.length=m.params.length) (hg:∀v∈l,GdV h v) (hA:StkAt lb w A l) (hb:h.enterB m l=false) :
  Calls Tryz.prog 41 #[.pointer (some ⟨p,0,none⟩),meV m P CC KA pp cc kk,.slice A l.length ac] w fun e w'=>e=.returned (vaV va0)∧Hs w0 g w' p (h.enterH m l)∧Fr w0.heap.size g.T w w':=by
 have hbs:=hH.base
 obtain ⟨WI,hWI⟩:∃WI,WI=(((w.alloc (.cells #[.slice P m.params.length pp,.int .i64 m.ret.kind,.int .i64 m.ret.cls,.int .i64 m.stack,.int .i64 m.locs,.int .i64 m.regs,.slice CC m.code.length cc,.slice KA m.hands.length kk] 50)).alloc (.cells #[.int .i64 0,.int .i64 0] 82)).alloc (.cells #[.int .i64 0,.int .i64 0] 82)):=⟨_,rfl⟩
 have hbl:Bl w WI:=by rw [hWI];exact (((Bl.refl w).alloc _).alloc _).alloc _
 have HF:Hid (Fr w0.heap.size g.T w WI):=Fr.old hbs hbl
 have HH:Hid (Hs w0 g WI p h):=hH.old hbl
 have HM:Hid (MthBox WI w.heap.size m P CC KA pp cc kk):=⟨by rw [hWI];exact blk_up (by simp;omega) (blk_up (by simp) (blk_at rfl))⟩
 have HR:Hid (VaBox WI (w.heap.size+1) va0):=⟨by rw [hWI];exact blk_up (by simp) (blk_at (by simp))⟩
 have HN:Hid (VaBox WI (w.heap.size+1+1) va0):=⟨by rw [hWI];exact blk_at (by simp)⟩
 have HA:Hid (StkAt lb WI A l):=hA.keep fun b cs f e _=>(hbl.block _ (lt_some e)).trans e
 have HC:=hid E.cq
 have HP:Hid (TysAt w0 P m.params):=hme.1
 have HL:Hid (l.length=m.params.length):=hl
 have HG:Hid (∀v∈l,v.kind=3→v.n<h.objs.length):=fun v hv e=>((hg v hv).ref e).2
 have hcl:=gh.calls
 have hbs1:w0.heap.size≤w.heap.size+1:=by omega
 have hle1:w.heap.size≤w.heap.size+1:=by omega
 have HS2:Hid (∀w',MthBox w' w.heap.size m P CC KA pp cc kk→(fun w'=>w'.cell? ⟨w.heap.size,0,none⟩=some (.slice P m.params.length pp)∧w'.cell? ⟨w.heap.size,1,none⟩=some (.int .i64 m.ret.kind)∧w'.cell? ⟨w.heap.size,2,none⟩=some (.int .i64 m.ret.cls)∧w'.cell? ⟨w.heap.size,3,none⟩=some (.int .i64 m.stack)∧w'.cell? ⟨w.heap.size,4,none⟩=some (.int .i64 m.locs)∧w'.cell? ⟨w.heap.size,5,none⟩=some (.int .i64 m.regs)∧w'.cell? ⟨w.heap.size,6,none⟩=some (.slice CC m.code.length cc)∧w'.cell? ⟨w.heap.size,7,none⟩=some (.slice KA m.hands.length kk)) w'):=fun w' X=>⟨X.cells.c0,X.cells.c1,X.cells.c2,X.cells.c3,X.cells.c4,X.cells.c5,X.cells.c6,X.cells.c7⟩
 have z2:=hid (HS2.out _ HM.out)
 have HB:Hid (h.enterB m l=false):=hb
 clear hH E hme hl hg hA hb hbl gh
 go_enter Tryz.func41,Tryz.ntmps41
 go_wp2
 rw [←hWI]
 clear hWI
 refine wp_region_held_drew (S:=fun w'=>w'.cell? ⟨w.heap.size,0,none⟩=some (.slice P m.params.length pp)∧w'.cell? ⟨w.heap.size,1,none⟩=some (.int .i64 m.ret.kind)∧w'.cell? ⟨w.heap.size,2,none⟩=some (.int .i64 m.ret.cls)∧w'.cell? ⟨w.heap.size,3,none⟩=some (.int .i64 m.stack)∧w'.cell? ⟨w.heap.size,4,none⟩=some (.int .i64 m.locs)∧w'.cell? ⟨w.heap.size,5,none⟩=some (.int .i64 m.regs)∧w'.cell? ⟨w.heap.size,6,none⟩=some (.slice CC m.code.length cc)∧w'.cell? ⟨w.heap.size,7,none⟩=some (.slice KA m.hands.length kk)) (by kernel_rfl) ?_ (fun hHeld0=>?_)
 ·exact z2.out
 iterate 5 (refine tn rfl (by kernel_rfl) (fun _ _ _ h=>h) (by intro _ h;go_split_ands;go_simp<;>with_reducible rfl) hHeld0 ?_;try simp only [aS,aN,aT,a0,a1])
 refine rd1 (i:=5) (by kernel_rfl) rfl fun K hK=>?_
 go_simp
 go_at_call 81
 refine (enter_any w0 g p h m P CC KA pp cc kk A ac lb l _ (HH.out.drewN 1) HC.out.cw ho HP.out HL.out (by exact HA.out) HG.out hcl).mono ?_
 rintro e w1 ⟨he,h1,f1⟩
 rw [HB.out] at he
 subst he
 have F1:=hid (((Fr.refl w0.heap.size g.T WI).drewN 1).trans f1)
 have HM1:=hid (HM.out.fr HC.out.k F1.out)
 have HB1:=hid (HR.out.keep HC.out.k F1.out)
 have HN1:=hid (HN.out.keep HC.out.k F1.out)
 have d1:=hid (HS2.out _ HM1.out)
 have H1:=hid h1
 clear h1 f1
 go_wp2_with fail
 refine hK.out _ _ (d1.out) (fun hHeld1=>?_)
 try simp only [aS,aN,aT,a0,a1]
 refine tn rfl (by kernel_rfl) (fun _ _ _ h=>h) (by intro _ h;go_split_ands;go_simp<;>with_reducible rfl) hHeld1 ?_
 try simp only [aS,aN,aT,a0,a1]
 refine wpAnyH_done (by kernel_rfl) ?_ _
 have r0:=HB1.out.c0
 have r1:=HB1.out.c1
 have rf:=HB1.out.fr
 have n0:=HN1.out.c0
 have n1:=HN1.out.c1
 go_wp2
 (try simp only [Exit.inBlock,Exit.then])
 refine bodyPost_ret (results_cell_row rfl _ _ (w.heap.size+1) _ _ _ _ rfl (HB1.out.set va0).blk Tryz.underlying82 rfl info_va) rfl ?_
 exact ⟨rfl,H1.out.cf (HB1.out.cf HC.out.k hbs1 _ _),((HF.out.trans F1.out).new hle1 hbs1 _).new hle1 hbs1 _⟩
def parV (t:Ty) (a:Int):Va:=⟨t.kind,if t.kind=1 then wrap32 a else a⟩
def parsV:List Ty→List Int→List Va
 | t::l,a::k=>parV t a::parsV l k
 | _,_=>[]
theorem parsV_length:∀(l:List Ty) (k:List Int),l.length=k.length→(parsV l k).length=l.length
 | [],[],_=>rfl
 | [],_::_,h=>by simp at h
 | _::_,[],h=>by simp at h
 | t::l,a::k,h=>by simp [parsV,parsV_length l k (by simpa using h)]
def anyRef (l:List Ty):Bool:=l.any fun t=>decide (t.kind=3)
def beginE (f:Fi) (entry:Int) (args input:List Int) (fuel:Int):Int :=
 if ¬(0≤entry∧entry≤(f.methods.length:Int)-1)∨¬(0≤fuel∧fuel≤60000) then 4
 else if 1000<input.length then 1
 else if args.length≠(nth me0 f.methods entry.toNat).params.length then 3
 else if anyRef (nth me0 f.methods entry.toNat).params=true then 3 else 0
abbrev fiB (f:Fi) (A B:Option Addr) (a b:Nat):Obj:=.cells #[.slice A f.classes.length a,.slice B f.methods.length b] 25
theorem begin_range (f:Fi) (A B I R:Option Addr) (a b i r:Nat) (entry fuel:Int) (args input:List Int) (w:World) (hm:f.methods.length≤maxLen) (he:¬(0≤entry∧entry≤(f.methods.length:Int)-1)∨¬(0≤fuel∧fuel≤60000)) :
  Calls Tryz.prog 40 #[fiV f.classes.length f.methods.length A B a b,.int .i64 entry,.slice R args.length r,.slice I input.length i,.int .i64 fuel] w fun e w'=>e=.returned (.tuple #[.pointer none,.slice none 0 0,.int .i64 4])∧Bl w w':=by
 unfold maxLen at hm
 by_cases h1:0≤entry∧entry≤(f.methods.length:Int)-1
 ·have d1:decide (0≤entry∧entry≤(f.methods.length:Int)-1)=true:=decide_eq_true h1
  have d2:decide (0≤fuel∧fuel≤60000)=false:=decide_eq_false (by omega)
  have H1:Hid (decide (0≤entry∧entry≤(f.methods.length:Int)-1)=true):=d1
  have H2:Hid (decide (0≤fuel∧fuel≤60000)=false):=d2
  clear d1 d2 h1 he
  go_enter Tryz.func40,Tryz.ntmps40
  go_wp2_with (first
   | (go_at_call_of 36 (Value.int IntKind.i64 60000);refine (within_any _ _ _ _).mono ?_;rintro e w1 ⟨he,hw1⟩;rw [H2.out] at he;subst he;rw [hw1];clear hw1 w1)
   | (go_at_call 36;refine (within_any _ _ _ _).mono ?_;rintro e w1 ⟨he,hw1⟩;rw [H1.out] at he;subst he;rw [hw1];clear hw1 w1))
  exact bodyPost_ret (v:=.tuple #[.pointer none,.slice none 0 0,.int .i64 4]) (by simp [results,Tryz.results40,go_sem]) rfl ⟨rfl,(Bl.refl w).alloc _⟩
 ·have H1:Hid (decide (0≤entry∧entry≤(f.methods.length:Int)-1)=false):=decide_eq_false h1
  clear h1 he
  go_enter Tryz.func40,Tryz.ntmps40
  go_wp2_with (go_at_call 36;refine (within_any _ _ _ _).mono ?_;rintro e w1 ⟨he,hw1⟩;rw [H1.out] at he;subst he;rw [hw1];clear hw1 w1)
  exact bodyPost_ret (v:=.tuple #[.pointer none,.slice none 0 0,.int .i64 4]) (by simp [results,Tryz.results40,go_sem]) rfl ⟨rfl,(Bl.refl w).alloc _⟩
theorem begin_size (f:Fi) (A B I R:Option Addr) (a b i r:Nat) (entry fuel:Int) (args input:List Int) (w:World) (hm:f.methods.length≤maxLen) (hi:input.length≤maxLen) (h1:0≤entry∧entry≤(f.methods.length:Int)-1) (h2:0≤fuel∧fuel≤60000) (h3:1000<input.length) :
  Calls Tryz.prog 40 #[fiV f.classes.length f.methods.length A B a b,.int .i64 entry,.slice R args.length r,.slice I input.length i,.int .i64 fuel] w fun e w'=>e=.returned (.tuple #[.pointer none,.slice none 0 0,.int .i64 1])∧Bl w w':=by
 unfold maxLen at hm hi
 have H1:Hid (decide (0≤entry∧entry≤(f.methods.length:Int)-1)=true):=decide_eq_true h1
 have H2:Hid (decide (0≤fuel∧fuel≤60000)=true):=decide_eq_true h2
 have d3:decide (1000<input.length)=true:=decide_eq_true h3
 clear h1 h2 
 go_enter Tryz.func40,Tryz.ntmps40
 go_wp2_with (first
  | (go_at_call_of 36 (Value.int IntKind.i64 60000);refine (within_any _ _ _ _).mono ?_;rintro e w1 ⟨he,hw1⟩;rw [H2.out] at he;subst he;rw [hw1];clear hw1 w1)
  | (go_at_call 36;refine (within_any _ _ _ _).mono ?_;rintro e w1 ⟨he,hw1⟩;rw [H1.out] at he;subst he;rw [hw1];clear hw1 w1))
 exact bodyPost_ret (v:=.tuple #[.pointer none,.slice none 0 0,.int .i64 1]) (by simp [results,Tryz.results40,go_sem]) rfl ⟨rfl,(Bl.refl w).alloc _⟩
theorem begin_len (f:Fi) (A B I R:Option Addr) (a b i r:Nat) (entry fuel:Int) (args input:List Int) (w:World) (hM:MesAt w B f.methods) (hi:input.length≤maxLen) (hr:args.length≤maxLen) (h1:0≤entry∧entry≤(f.methods.length:Int)-1) (h2:0≤fuel∧fuel≤60000) (h3:¬1000<input.length) (h4:args.length≠(nth me0 f.methods entry.toNat).params.length) :
  Calls Tryz.prog 40 #[fiV f.classes.length f.methods.length A B a b,.int .i64 entry,.slice R args.length r,.slice I input.length i,.int .i64 fuel] w fun e w'=>e=.returned (.tuple #[.pointer none,.slice none 0 0,.int .i64 3])∧Bl w w':=by
 unfold maxLen at hi
 obtain ⟨n,rfl⟩:∃n:Nat,entry=n:=⟨entry.toNat,by omega⟩
 have hnl:n<f.methods.length:=by omega
 have hmm:=hM.1
 unfold maxLen at hmm
 rw [Int.toNat_natCast] at *
 obtain ⟨mb,mo,P,CC,K,pp,cc,kk,hB,⟨z0,z1,z2,z3,z4,z5,z6,z7⟩,hme⟩:=mes_cells hM hnl
 subst hB
 have hmb:mb<w.heap.size:=cell_lt z0
 have bl0:Bl w (w.alloc (fiB f A (some ⟨mb,mo,none⟩) a b)):=(Bl.refl w).alloc _
 have y0:=bl0.cell z0
 have y1:=bl0.cell z1
 have y2:=bl0.cell z2
 have y3:=bl0.cell z3
 have y4:=bl0.cell z4
 have y5:=bl0.cell z5
 have y6:=bl0.cell z6
 have y7:=bl0.cell z7
 clear z0 z1 z2 z3 z4 z5 z6 z7 bl0
 have hmb1:mb<w.heap.size+1:=by omega
 have H1:Hid (decide (0≤(n:Int)∧(n:Int)≤(f.methods.length:Int)-1)=true):=decide_eq_true h1
 have H2:Hid (decide (0≤fuel∧fuel≤60000)=true):=decide_eq_true h2
 have d3:decide ((1000:Int)<(input.length:Int))=false:=decide_eq_false (by omega)
 have hn0:(0:Int)≤(n:Int):=by omega
 have hn1:(n:Int)<(f.methods.length:Int):=by omega
 have hpm:=hme.1.1
 unfold maxLen at hpm
 unfold maxLen at hr
 generalize nth me0 f.methods n=M at *
 have d4:((args.length:Int) !=(M.params.length:Int))=true:=by simp;omega
 clear h1 h2 h3 h4 hme hM
 go_enter Tryz.func40,Tryz.ntmps40
 go_wp2_with (first
  | (go_at_call_of 36 (Value.int IntKind.i64 60000);refine (within_any _ _ _ _).mono ?_;rintro e w1 ⟨he,hw1⟩;rw [H2.out] at he;subst he;rw [hw1];clear hw1 w1)
  | (go_at_call 36;refine (within_any _ _ _ _).mono ?_;rintro e w1 ⟨he,hw1⟩;rw [H1.out] at he;subst he;rw [hw1];clear hw1 w1))
 exact bodyPost_ret (v:=.tuple #[.pointer none,.slice none 0 0,.int .i64 3]) (by simp [results,Tryz.results40,go_sem]) rfl ⟨rfl,((Bl.refl w).alloc _).alloc _⟩
theorem pars_snoc (l:List Ty) (k:List Int) (q:Nat) (hq:q<l.length) (hl:l.length=k.length):parsV (l.take (q+1)) (k.take (q+1))=parsV (l.take q) (k.take q)++[parV (nth ty0 l q) (nth (0:Int) k q)]:=by
 induction l generalizing k q with
 | nil=>simp at hq
 | cons t l ih =>
  cases k with
  | nil=>simp at hl
  | cons a k =>
   cases q with
   | zero=>simp [parsV,nth]
   | succ q =>
    have:=ih k q (by simpa using hq) (by simpa using hl)
    have e1:nth ty0 (t::l) (q+1)=nth ty0 l q:=by simp [nth]
    have e2:nth (0:Int) (a::k) (q+1)=nth (0:Int) k q:=by simp [nth]
    rw [e1,e2]
    simp only [List.take_succ_cons,parsV,this,List.cons_append]
theorem pars_takeLen (l:List Ty) (k:List Int) (q:Nat) (hq:q≤l.length) (hl:l.length=k.length):(parsV (l.take q) (k.take q)).length=q:=by
 rw [parsV_length _ _ (by simp;omega)];simp;omega
def heap0 (f:Fi) (input:List Int) (fuel:Int):Hp:=⟨f,[],input,0,fuel,⟨0,0,0,[],0,0⟩,false,-1⟩
def BeginEnd (W0:World) (f:Fi) (A B I:Option Addr) (a b i:Nat) (fuel:Int) (input:List Int) (l:List Va) (w:World) (e:Ending) (w':World):Prop :=
 ∃p L lc,e=.returned (.tuple #[.pointer (some ⟨p,0,none⟩),.slice L l.length lc,.int .i64 0])∧HpAt W0 ⟨A,a,B,b,I,i,78⟩ w' p (heap0 f input fuel) (.slice none 0 0) (.slice none 0 0) []∧StkAt w.heap.size w' L l∧l.length≤lc∧Bl w w'
def BeginPost (W0:World) (f:Fi) (A B I:Option Addr) (a b i:Nat) (fuel:Int) (input:List Int) (ps:List Ty) (args:List Int) (w:World) (e:Ending) (w':World):Prop :=
 if anyRef ps=true then e=.returned (.tuple #[.pointer none,.slice none 0 0,.int .i64 3])∧Bl w w' else BeginEnd W0 f A B I a b i fuel input (parsV ps args) w e w'
theorem begin_go (W0:World) (f:Fi) (A B I R:Option Addr) (a b i r:Nat) (entry fuel:Int) (args input:List Int) (w:World) (hW:Bl W0 w) (hM:MesAt w B f.methods) (hi:input.length≤maxLen) (hR:IntsAt w R args) (h1:0≤entry∧entry≤(f.methods.length:Int)-1) (h2:0≤fuel∧fuel≤60000) (h3:¬1000<input.length) (h4:args.length=(nth me0 f.methods entry.toNat).params.length) (h5:(nth me0 f.methods entry.toNat).params.length≤4) :
  Calls Tryz.prog 40 #[fiV f.classes.length f.methods.length A B a b,.int .i64 entry,.slice R args.length r,.slice I input.length i,.int .i64 fuel] w fun e w' =>
   BeginPost W0 f A B I a b i fuel input (nth me0 f.methods entry.toNat).params args w e w':=by
 unfold maxLen at hi
 obtain ⟨n,rfl⟩:∃n:Nat,entry=n:=⟨entry.toNat,by omega⟩
 have hnl:n<f.methods.length:=by omega
 have hmm:=hM.1
 unfold maxLen at hmm
 rw [Int.toNat_natCast] at *
 obtain ⟨mb,mo,P,CC,K,pp,cc,kk,hB,⟨z0,z1,z2,z3,z4,z5,z6,z7⟩,hme⟩:=mes_cells hM hnl
 subst hB
 have hmb:mb<w.heap.size:=cell_lt z0
 have bl0:Bl w (w.alloc (fiB f A (some ⟨mb,mo,none⟩) a b)):=(Bl.refl w).alloc _
 have y0:=bl0.cell z0
 have y1:=bl0.cell z1
 have y2:=bl0.cell z2
 have y3:=bl0.cell z3
 have y4:=bl0.cell z4
 have y5:=bl0.cell z5
 have y6:=bl0.cell z6
 have y7:=bl0.cell z7
 clear z0 z1 z2 z3 z4 z5 z6 z7 bl0
 have hmb1:mb<w.heap.size+1:=by omega
 have H1:Hid (decide (0≤(n:Int)∧(n:Int)≤(f.methods.length:Int)-1)=true):=decide_eq_true h1
 have H2:Hid (decide (0≤fuel∧fuel≤60000)=true):=decide_eq_true h2
 have d3:decide ((1000:Int)<(input.length:Int))=false:=decide_eq_false (by omega)
 have hn0:(0:Int)≤(n:Int):=by omega
 have hn1:(n:Int)<(f.methods.length:Int):=by omega
 have hpm:=hme.1.1
 unfold maxLen at hpm
 obtain ⟨i0,hi0,hz0,hz1,hz2⟩:=info_parts info_va3
 generalize nth me0 f.methods n=M at *
 have d4:((args.length:Int) !=(M.params.length:Int))=false:=by simp;omega
 have HPT:Hid (∀wr,Bl w wr→TysAt wr P M.params):=fun wr hb=>hme.1.bl hb
 have HRT:Hid (∀wr,Bl w wr→IntsAt wr R args):=fun wr hb=>hR.bl hb
 have H4:Hid (args.length=M.params.length):=h4
 clear h1 h2 h3 hme hM hR h4
 have C0:Hid (((w.alloc (fiB f A (some ⟨mb,mo,none⟩) a b)).alloc (meBO M P CC K pp cc kk)).cell? ⟨w.heap.size+1,0,none⟩=some (.slice P M.params.length pp)):=cell_blk (blk_at (by simp))
 have C1:Hid (((w.alloc (fiB f A (some ⟨mb,mo,none⟩) a b)).alloc (meBO M P CC K pp cc kk)).cell? ⟨w.heap.size,0,none⟩=some (.slice A f.classes.length a)):=(cell_blk (blk_up (by simp) (blk_at rfl))).trans rfl
 have C2:Hid (((w.alloc (fiB f A (some ⟨mb,mo,none⟩) a b)).alloc (meBO M P CC K pp cc kk)).cell? ⟨w.heap.size,1,none⟩=some (.slice (some ⟨mb,mo,none⟩) f.methods.length b)):=(cell_blk (blk_up (by simp) (blk_at rfl))).trans rfl
 go_enter Tryz.func40,Tryz.ntmps40
 go_wp2_with (first
  | (go_at_call_of 36 (Value.int IntKind.i64 60000);refine (within_any _ _ _ _).mono ?_;rintro e w1 ⟨he,hw1⟩;rw [H2.out] at he;subst he;rw [hw1];clear hw1 w1)
  | (go_at_call 36;refine (within_any _ _ _ _).mono ?_;rintro e w1 ⟨he,hw1⟩;rw [H1.out] at he;subst he;rw [hw1];clear hw1 w1))
 go_loopw [14,15] (fun u i wr=>∃q:Nat,q≤M.params.length∧i=.int .i64 q∧Hid (Bl ((w.alloc (fiB f A (some ⟨mb,mo,none⟩) a b)).alloc (meBO M P CC K pp cc kk)) wr)∧wr.cell? ⟨w.heap.size+1,0,none⟩=some (.slice P M.params.length pp)∧wr.cell? ⟨w.heap.size,0,none⟩=some (.slice A f.classes.length a)∧wr.cell? ⟨w.heap.size,1,none⟩=some (.slice (some ⟨mb,mo,none⟩) f.methods.length b)∧w.heap.size+1<wr.heap.size∧Hid (wr.ownsRow (w.heap.size+2) 82 2 u q (vaCells (parsV (M.params.take q) (args.take q))))∧Hid (∀j,j<q→(nth ty0 M.params j).kind≠3)) (fun _ i _=>args.length-(intOf i).toNat)
 case atStart=>exact ⟨0,Nat.zero_le _,rfl,Bl.refl _,cell_blk (blk_at (by simp)),(cell_blk (blk_up (by simp) (blk_at rfl))).trans rfl,(cell_blk (blk_up (by simp) (blk_at rfl))).trans rfl,by simp,⟨rfl,Or.inl ⟨rfl,rfl⟩⟩,fun j hj=>absurd hj (by omega)⟩
 case round =>
  obtain ⟨q,hq,rfl,hgx,c0,g0,g1,hsz,hO,hk⟩:=hrel
  have hg:Hid (Bl w wr):=Bl.trans (((Bl.refl w).alloc _).alloc _) hgx.out
  by_cases hql:q<M.params.length
  ·have hql':q<args.length:=by rw [H4.out];exact hql
   rcases (HPT.out wr hg.out).2 with h0|⟨xb,xo,hPA,hcell⟩
   ·omega
   obtain ⟨t0,-⟩:=hcell q hql
   rcases (HRT.out wr hg.out).2 with h0|⟨rb,ro,hRA,hrc⟩
   ·omega
   have r0:=(hrc q hql').1
   rw [hPA] at c0
   have HPA:Hid (P=some ⟨xb,xo,none⟩):=hPA
   subst hRA
   have HSN:=pars_snoc M.params args q hql H4.out.symm
   have HSNH:Hid (parsV (M.params.take (q+1)) (args.take (q+1))=parsV (M.params.take q) (args.take q)++[parV (nth ty0 M.params q) (nth (0:Int) args q)]):=HSN
   have HALL:Hid ((nth ty0 M.params q).kind≠3→∀j,j<q+1→(nth ty0 M.params j).kind≠3):=fun h3 j hj=>by
    by_cases e:j=q
    ·rw [e];exact h3
    ·exact hk.out j (by omega)
   have HANY:Hid ((nth ty0 M.params q).kind=3→anyRef M.params=true):=fun h3=>by
    show anyRef M.params=true
    unfold anyRef
    rw [List.any_eq_true]
    exact ⟨_,nth_mem hql,decide_eq_true h3⟩
   have hxl:=cell_lt t0
   have hrl:=cell_lt r0
   have ham:args.length≤2 ^ 63-1:=by have:=H4.out;omega
   have hq0:(0:Int)≤(q:Int):=by omega
   have hq1:(q:Int)<(M.params.length:Int):=by omega
   have hq2:(q:Int)<(args.length:Int):=by omega
   clear hcell hrc hPA HSN hk
   generalize nth ty0 M.params q=t at *
   generalize nth (0:Int) args q=av at *
   by_cases h3:t.kind=3
   ·have hz:(t.kind==3)=true:=by simpa using h3
    have HA3:Hid (anyRef M.params=true):=HANY.out h3
    clear h3
    go_wp2
    refine bodyPost_ret (v:=.tuple #[.pointer none,.slice none 0 0,.int .i64 3]) (by simp [results,Tryz.results40,go_sem]) rfl ?_
    unfold BeginPost
    rw [if_pos HA3.out]
    exact ⟨rfl,hg.out⟩
   ·have hz:(t.kind==3)=false:=by simpa using h3
    have HNX:Hid (∀j,j<q+1→(nth ty0 M.params j).kind≠3):=HALL.out h3
    clear h3
    by_cases h1k:t.kind=1
    ·have HPV:Hid (parV t av=⟨1,wrap32 av⟩):=by show parV t av=_;unfold parV;rw [if_pos h1k,h1k]
     rw [h1k] at t0 hz
     clear h1k
     go_wp2
     go_region_held3 (fun w'=>w'.cell? ⟨w.heap.size+1,0,none⟩=some (.slice (some ⟨xb,xo,none⟩) M.params.length pp)∧w'.cell? ⟨xb,xo+q*2,none⟩=some (.int .i64 1)∧w'.cell? ⟨rb,ro+q,none⟩=some (.int .i64 av))
      (go_keep)
      (fail)
     go_wp2_with (first
      | (go_at_call 80;refine (rnarrow_any _ _).mono ?_;rintro e w3 ⟨rfl,hw3⟩;rw [hw3];clear hw3 w3)
      | (at_builtin;refine wpList_append_lies _ rfl (.tmp 76) (.tmp 78) 72 rfl (w.heap.size+2) 82 i0 _ 2 16 Tryz.underlying72 hi0 hz0 hz1 hz2 rfl (by omega) u14 q (vaCells (parsV (M.params.take q) (args.take q))) (by rfl) (by exact ((hO.out.alloc _).alloc _).drew) ⟨wr.heap.size+1,0,none⟩ 1 1 [.int .i64 1,.int .i64 (wrap32 av)] (by rfl) (by rfl) (World.news_of_block (cs:=#[.int .i64 1,.int .i64 (wrap32 av)]) (t:=82) (fr:=(0,0)) (blk_at (w:=wr.alloc (.cells #[.int .i64 1,.int .i64 (wrap32 av)] 82)) (by simp))) (by simp [Value.oneCell']) (by omega) (by unfold maxLen;omega) (by omega) (by simp;omega) (wr.heap.size+1+1) (by simp) ?_;intro gg cap w7 hown1 hgrow hat hlt;have hb7:Bl ((w.alloc (fiB f A (some ⟨mb,mo,none⟩) a b)).alloc (meBO M P CC K pp cc kk)) w7:=bl_grown (((hgx.out.alloc _).alloc _).drew) hgrow (fun k' hk'=>by have:=own_ge hO.out hk';simp;omega);have B7:Hid (Bl ((w.alloc (fiB f A (some ⟨mb,mo,none⟩) a b)).alloc (meBO M P CC K pp cc kk)) w7):=hb7;have e0:=hb7.cell C0.out;have e1:=hb7.cell C1.out;have e2:=hb7.cell C2.out;have e3:w.heap.size+2≤w7.heap.size:=(by have:=hb7.size;simp at this;omega)))
     go_roundw
     case rel=>exact ⟨q+1,by omega,by go_num,B7,e0,e1,e2,by omega,by
      show World.ownsRow _ _ _ _ _ _ _
      rw [HSNH.out,HPV.out,vaCells_append]
      exact hown1,HNX⟩
     case measure=>simp [intOf];omega
    ·have hk1z:(t.kind==1)=false:=by simpa using h1k
     have HPV:Hid (parV t av=⟨t.kind,av⟩):=by show parV t av=_;unfold parV;rw [if_neg h1k]
     clear h1k
     go_wp2
     go_region_held3 (fun w'=>w'.cell? ⟨w.heap.size+1,0,none⟩=some (.slice (some ⟨xb,xo,none⟩) M.params.length pp)∧w'.cell? ⟨xb,xo+q*2,none⟩=some (.int .i64 t.kind)∧w'.cell? ⟨rb,ro+q,none⟩=some (.int .i64 av))
      (go_keep)
      (fail)
     go_wp2_with (first
      | (at_builtin;refine wpList_append_lies _ rfl (.tmp 76) (.tmp 78) 72 rfl (w.heap.size+2) 82 i0 _ 2 16 Tryz.underlying72 hi0 hz0 hz1 hz2 rfl (by omega) u14 q (vaCells (parsV (M.params.take q) (args.take q))) (by rfl) (by exact ((hO.out.alloc _).alloc _).drew) ⟨wr.heap.size+1,0,none⟩ 1 1 [.int .i64 t.kind,.int .i64 av] (by rfl) (by rfl) (World.news_of_block (cs:=#[.int .i64 t.kind,.int .i64 av]) (t:=82) (fr:=(0,0)) (blk_at (w:=wr.alloc (.cells #[.int .i64 t.kind,.int .i64 av] 82)) (by simp))) (by simp [Value.oneCell']) (by omega) (by unfold maxLen;omega) (by omega) (by simp;omega) (wr.heap.size+1+1) (by simp) ?_;intro gg cap w7 hown1 hgrow hat hlt;have hb7:Bl ((w.alloc (fiB f A (some ⟨mb,mo,none⟩) a b)).alloc (meBO M P CC K pp cc kk)) w7:=bl_grown (((hgx.out.alloc _).alloc _).drew) hgrow (fun k' hk'=>by have:=own_ge hO.out hk';simp;omega);have B7:Hid (Bl ((w.alloc (fiB f A (some ⟨mb,mo,none⟩) a b)).alloc (meBO M P CC K pp cc kk)) w7):=hb7;have e0:=hb7.cell C0.out;have e1:=hb7.cell C1.out;have e2:=hb7.cell C2.out;have e3:w.heap.size+2≤w7.heap.size:=(by have:=hb7.size;simp at this;omega)))
     go_roundw
     case rel=>exact ⟨q+1,by omega,by go_num,B7,e0,e1,e2,by omega,by
      show World.ownsRow _ _ _ _ _ _ _
      rw [HSNH.out,HPV.out,vaCells_append]
      exact hown1,HNX⟩
     case measure=>simp [intOf];omega
  ·obtain rfl:q=M.params.length:=by omega
   have HNR:Hid (anyRef M.params=false):=by
    show anyRef M.params=false
    unfold anyRef
    rw [List.any_eq_false]
    intro x hx
    obtain ⟨j,hj,rfl⟩:=List.getElem_of_mem hx
    have:=hk.out j hj
    rw [nth_get hj] at this
    simpa using this
   have hlen:=pars_takeLen M.params args M.params.length (Nat.le_refl _) H4.out.symm
   rw [List.take_length,←H4.out,List.take_length,H4.out] at hlen
   have hO2:=hO.out
   rw [List.take_length,←H4.out,List.take_length,H4.out] at hO2
   obtain ⟨L,lc,rfl,hL1,hL2⟩:∃L lc,u14=.slice L M.params.length lc∧(∀wz,Bl wr wz→StkAt w.heap.size wz L (parsV M.params args))∧M.params.length≤lc:=by
    rcases hO2.2 with ⟨e1,e2⟩|⟨gb,cp,cur,e1,e2,e3,e4,-⟩
    ·exact ⟨none,0,by rw [e1,e2],fun wz hb=>Or.inl (by omega),by omega⟩
    ·subst e1
     exact ⟨_,cp,rfl,fun wz hb=>((own_stk hO2 (lb:=w.heap.size) (by omega) hlen.symm).1).keep fun b cs f e _=>(hb.block _ (lt_some e)).trans e,e4⟩
   have HL1:Hid (∀wz,Bl wr wz→StkAt w.heap.size wz L (parsV M.params args)):=hL1
   have HLEN:Hid ((parsV M.params args).length=M.params.length):=hlen
   have HL2:Hid (M.params.length≤lc):=hL2
   have hle4:args.length≤M.params.length:=by have:=H4.out;omega
   clear hO2 hlen hL1 hL2 hk
   go_wp2
   refine bodyPost_ret (v:=.tuple #[.pointer (some ⟨wr.heap.size,0,none⟩),.slice L M.params.length lc,.int .i64 0]) (by simp [results,Tryz.results40,go_sem]) rfl ?_
   unfold BeginPost
   rw [if_neg (by rw [HNR.out];decide)]
   have hWr:Bl W0 wr:=hW.trans hg.out
   refine ⟨wr.heap.size,L,lc,by rw [HLEN.out],⟨hWr.size,blk_at rfl,hWr.alloc _,⟨rfl,Or.inl ⟨rfl,rfl⟩⟩,⟨rfl,⟨rfl,Or.inl ⟨rfl,rfl⟩⟩,fun i hi=>absurd hi (by simp [heap0]),fun i j hi=>absurd hi (by simp [heap0])⟩⟩,HL1.out _ ((Bl.refl _).alloc _),by rw [HLEN.out];exact HL2.out,hg.out.alloc _⟩
def Hp.doneH (h:Hp) (v:Va):Hp :=
 if h.over=true then h
 else if 0≤h.thrown then { h with sh:={ h.sh with fin:=2,cls:=(h.obj h.thrown).cls } }
 else if v.kind=1∨v.kind=2 then { h with sh:={ h.sh with fin:=1,value:=v.n } } else { h with sh:={ h.sh with fin:=1 } }
abbrev shV (s:Sh) (vx:Value):Value:=.agg #[.int .i64 s.fin,.int .i64 s.value,.int .i64 s.cls,vx,.int .i64 s.used,.int .i64 s.steps]
abbrev shZ:Obj:=.cells #[.int .i64 0,.int .i64 0,.int .i64 0,.slice none 0 0,.int .i64 0,.int .i64 0] 28
theorem info_sh:(Tryz.prog.info? 28).map (·.size)=some 6:=by kernel_rfl
structure ShBox (w:World) (b:Nat) (cs:Array Value):Prop where
 blk:w.heap[b]?=some (.cells cs 28 (0,0))
theorem ShBox.six {w:World} {b:Nat} {a0 a1 a2 a3 a4 a5:Value} (h:ShBox w b #[a0,a1,a2,a3,a4,a5]) (s:Sh) (vx:Value) :
  ShBox ((((((w.setCell ⟨b,0,none⟩ (.int .i64 s.fin)).setCell ⟨b,1,none⟩ (.int .i64 s.value)).setCell ⟨b,2,none⟩ (.int .i64 s.cls)).setCell ⟨b,3,none⟩ vx).setCell ⟨b,4,none⟩ (.int .i64 s.used)).setCell ⟨b,5,none⟩ (.int .i64 s.steps)) b #[.int .i64 s.fin,.int .i64 s.value,.int .i64 s.cls,vx,.int .i64 s.used,.int .i64 s.steps] :=
 ⟨by rw [block_set (block_set (block_set (block_set (block_set (block_set h.blk _) _) _) _) _)];rfl⟩
theorem ShBox.cf {B:Nat} {T:TypeId} {w:World} {b:Nat} {cs:Array Value} (h:ShBox w b cs) (k:¬heapT T 28) (hB:B≤b) (a0 a1 a2 a3 a4 a5:Value) :
  Cf B T w ((((((w.setCell ⟨b,0,none⟩ a0).setCell ⟨b,1,none⟩ a1).setCell ⟨b,2,none⟩ a2).setCell ⟨b,3,none⟩ a3).setCell ⟨b,4,none⟩ a4).setCell ⟨b,5,none⟩ a5) :=
 ((((((Cf.refl B T w).set h.blk k hB a0).set (block_set h.blk _) k hB a1).set (block_set (block_set h.blk _) _) k hB a2).set (block_set (block_set (block_set h.blk _) _) _) k hB a3).set (block_set (block_set (block_set (block_set h.blk _) _) _) _) k hB a4).set (block_set (block_set (block_set (block_set (block_set h.blk _) _) _) _) _) k hB a5
theorem done_any (w0:World) (g:Ad) (k:Tk g.T) (hsh:g.T≠28) (p:Nat) (h:Hp) (v:Va) (w:World) (vo vx:Value) (hv:List Value) (H:HpAt w0 g w p h vo vx hv) (ht:h.thrown<h.objs.length) :
  Calls Tryz.prog 42 #[.pointer (some ⟨p,0,none⟩),vaV v] w fun e w'=>e=.returned (shV (h.doneH v).sh vx)∧HpAt w0 g w' p (h.doneH v) vo vx hv∧Fr w0.heap.size g.T w w':=by
 have hbs:=H.base
 have hpl:=lt_some H.blk
 have hpl1:p<w.heap.size+1:=by omega
 have HX:Hid (HpAt w0 g w p h vo vx hv):=H
 have HK:Hid (Tk g.T):=k
 have c:=H.cells
 have c6:=c.c6
 have c7:=c.c7
 have c8:=c.c8
 have c9:=c.c9
 have c10:=c.c10
 have c11:=c.c11
 have c12:=c.c12
 have c13:=c.c13
 have c2:=c.c2
 have f:=H.free
 clear H c
 obtain ⟨xa,xn,xc,rfl⟩:∃xa xn xc,vx=.slice xa xn xc:=by
  rcases HX.out.out.2 with ⟨e,-⟩|⟨gb,cp,cur,e,-⟩
  ·exact ⟨_,_,_,e⟩
  ·exact ⟨_,_,_,e⟩
 cases hov:h.over
 ·rw [hov] at c12
  by_cases h0:0≤h.thrown
  ·have hr:h.doneH v={ h with sh:={ h.sh with fin:=2,cls:=(h.obj h.thrown).cls } }:=by unfold Hp.doneH;rw [if_neg (by rw [hov];decide),if_pos h0]
   rw [hr]
   clear hr
   have hd:decide (0≤h.thrown)=true:=decide_eq_true h0
   obtain ⟨n,hn⟩:∃n:Nat,h.thrown=n:=⟨h.thrown.toNat,by omega⟩
   have hnl:n<h.objs.length:=by omega
   obtain ⟨gb,cap,hvo,-,hom,hcc⟩:=obs_cell HX.out.obs (by omega)
   have o1:=(hcc n hnl).1
   unfold maxLen at hom
   have HO:Hid ((h.obj h.thrown).cls=(nth ob0 h.objs n).cls):=by show (h.obj h.thrown).cls=_;unfold Hp.obj;rw [hn,Int.toNat_natCast]
   have hgp:gb≠p:=by
    intro e
    rcases HX.out.obs.row.2 with ⟨h1,h2⟩|⟨gb',cp',cur',h1,h2,h3,-⟩
    ·omega
    ·rw [hvo] at h1
     simp only [Value.slice.injEq,Option.some.injEq,Addr.mk.injEq] at h1
     obtain ⟨⟨rfl,-,-⟩,-,-⟩:=h1
     rw [e,HX.out.blk] at h3
     simp at h3
     exact HK.out.o h3.2
   have hgp':p≠gb:=Ne.symm hgp
   have hgl:=cell_lt o1
   have hgl1:gb<w.heap.size+1:=by omega
   have hn0:(0:Int)≤(n:Int):=by omega
   have hn1:(n:Int)<(h.objs.length:Int):=by omega
   rw [hvo] at c2
   have c13':=c13
   rw [hn] at c13'
   rw [hn] at hd
   have HN:Hid (h.thrown=n):=hn
   clear hcc hn c13 h0
   rw [HO.out]
   generalize (nth ob0 h.objs n).cls=X at *
   have H1:=HX.out.set HK.out (i:=6) (v:=.int .i64 2) { h with sh:={ h.sh with fin:=2 } } rfl rfl rfl
   have HH1:Hid (HpAt w0 g (w.setCell ⟨p,6,none⟩ (.int .i64 2)) p { h with sh:={ h.sh with fin:=2 } } vo (.slice xa xn xc) hv):=H1
   have bA:Bl (w.setCell ⟨p,6,none⟩ (.int .i64 2)) (((w.setCell ⟨p,6,none⟩ (.int .i64 2)).alloc (vaO v)).alloc shZ):=((Bl.refl _).alloc _).alloc _
   have a2:=bA.cell (H1.cells.c2)
   rw [hvo] at a2
   have a13:=bA.cell (H1.cells.c13)
   rw [show ({ h with sh:={ h.sh with fin:=2 } }:Hp).thrown=(n:Int) from HN.out] at a13
   have ao:(((w.setCell ⟨p,6,none⟩ (.int .i64 2)).alloc (vaO v)).alloc shZ).cell? ⟨gb,n*2,none⟩=some (.int .i64 X):=bA.cell ((World.cell?_of_block (block_far hgp _)).trans o1)
   have H2:=H1.set HK.out (i:=8) (v:=.int .i64 X) { h with sh:={ h.sh with fin:=2,cls:=X } } rfl rfl rfl
   have HH2:Hid (HpAt w0 g ((w.setCell ⟨p,6,none⟩ (.int .i64 2)).setCell ⟨p,8,none⟩ (.int .i64 X)) p { h with sh:={ h.sh with fin:=2,cls:=X } } vo (.slice xa xn xc) hv):=H2
   have bB:Bl ((w.setCell ⟨p,6,none⟩ (.int .i64 2)).setCell ⟨p,8,none⟩ (.int .i64 X)) ((((w.setCell ⟨p,6,none⟩ (.int .i64 2)).setCell ⟨p,8,none⟩ (.int .i64 X)).alloc (vaO v)).alloc shZ):=((Bl.refl _).alloc _).alloc _
   have b2:=bB.cell (H2.cells.c2)
   rw [hvo] at b2
   have b13:=bB.cell (H2.cells.c13)
   rw [show ({ h with sh:={ h.sh with fin:=2,cls:=X } }:Hp).thrown=(n:Int) from HN.out] at b13
   have bo:((((w.setCell ⟨p,6,none⟩ (.int .i64 2)).setCell ⟨p,8,none⟩ (.int .i64 X)).alloc (vaO v)).alloc shZ).cell? ⟨gb,n*2,none⟩=some (.int .i64 X):=bB.cell ((World.cell?_of_block (block_far hgp _)).trans ((World.cell?_of_block (block_far hgp _)).trans o1))
   have HOV:Hid (h.over=false):=hov
   clear H1 H2 bA bB hov hvo
   go_enter Tryz.func42,Tryz.ntmps42
   go_wp2
   go_region_held3 (fun w'=>w'.cell? ⟨p,2,none⟩=some (.slice (some ⟨gb,0,none⟩) h.objs.length cap)∧w'.cell? ⟨p,13,none⟩=some (.int .i64 (n:Int))∧w'.cell? ⟨gb,n*2,none⟩=some (.int .i64 X))
    (go_keep)
    (fail)
   go_wp2
   (try simp only [Exit.inBlock,Exit.then])
   have hfin:=fun (cs:Array Value)=>(blk_at (by simp):((((w.setCell ⟨p,6,none⟩ (.int .i64 2)).setCell ⟨p,8,none⟩ (.int .i64 X)).alloc (vaO v)).alloc (.cells cs 28)).heap[w.heap.size+1]?=some (.cells cs 28 (0,0)))
   refine bodyPost_ret (results_cell_row rfl _ _ (w.heap.size+1) _ _ _ _ rfl (hfin _) Tryz.underlying28 rfl info_sh) rfl ?_
   have FA:=(HX.out.frSet 6 (.int .i64 2)).trans (HH1.out.frSet 8 (.int .i64 X))
   exact ⟨rfl,HH2.out.old (((Bl.refl _).alloc _).alloc _).drew,FA.trans (Fr.old HH2.out.base (((Bl.refl _).alloc _).alloc _).drew)⟩
  ·have hd:decide (0≤h.thrown)=false:=decide_eq_false h0
   by_cases hk:v.kind=1∨v.kind=2
   ·have hr:h.doneH v={ h with sh:={ h.sh with fin:=1,value:=v.n } }:=by unfold Hp.doneH;rw [if_neg (by rw [hov];decide),if_neg h0,if_pos hk]
    rw [hr]
    have HOV:Hid (h.over=false):=hov
    clear hr hov
    obtain ⟨vk,vn⟩:=v
    dsimp only at *
    rcases hk with rfl|rfl
    ·go_enter Tryz.func42,Tryz.ntmps42
     go_wp2
     (try simp only [Exit.inBlock,Exit.then])
     refine bodyPost_ret (results_cell_row rfl _ _ (w.heap.size+1) _ _ _ _ rfl (blk_at (by simp)) Tryz.underlying28 rfl info_sh) rfl ?_
     have H1:=HX.out.set HK.out (i:=6) (v:=.int .i64 1) { h with sh:={ h.sh with fin:=1 } } rfl rfl rfl
     have H2:=H1.set HK.out (i:=7) (v:=.int .i64 vn) { h with sh:={ h.sh with fin:=1,value:=vn } } rfl rfl rfl
     have FA:=(HX.out.frSet 6 (.int .i64 1)).trans (H1.frSet 7 (.int .i64 vn))
     exact ⟨rfl,H2.old (((Bl.refl _).alloc _).alloc _),FA.trans (Fr.old H2.base (((Bl.refl _).alloc _).alloc _))⟩
    ·go_enter Tryz.func42,Tryz.ntmps42
     go_wp2
     (try simp only [Exit.inBlock,Exit.then])
     refine bodyPost_ret (results_cell_row rfl _ _ (w.heap.size+1) _ _ _ _ rfl (blk_at (by simp)) Tryz.underlying28 rfl info_sh) rfl ?_
     have H1:=HX.out.set HK.out (i:=6) (v:=.int .i64 1) { h with sh:={ h.sh with fin:=1 } } rfl rfl rfl
     have H2:=H1.set HK.out (i:=7) (v:=.int .i64 vn) { h with sh:={ h.sh with fin:=1,value:=vn } } rfl rfl rfl
     have FA:=(HX.out.frSet 6 (.int .i64 1)).trans (H1.frSet 7 (.int .i64 vn))
     exact ⟨rfl,H2.old (((Bl.refl _).alloc _).alloc _),FA.trans (Fr.old H2.base (((Bl.refl _).alloc _).alloc _))⟩
   ·have hr:h.doneH v={ h with sh:={ h.sh with fin:=1 } }:=by unfold Hp.doneH;rw [if_neg (by rw [hov];decide),if_neg h0,if_neg hk]
    rw [hr]
    have HOV:Hid (h.over=false):=hov
    clear hr hov
    have k1:(v.kind==1)=false:=by simp;omega
    have k2:(v.kind==2)=false:=by simp;omega
    clear hk
    go_enter Tryz.func42,Tryz.ntmps42
    go_wp2
    (try simp only [Exit.inBlock,Exit.then])
    refine bodyPost_ret (results_cell_row rfl _ _ (w.heap.size+1) _ _ _ _ rfl (blk_at (by simp)) Tryz.underlying28 rfl info_sh) rfl ?_
    have H1:=HX.out.set HK.out (i:=6) (v:=.int .i64 1) { h with sh:={ h.sh with fin:=1 } } rfl rfl rfl
    exact ⟨rfl,H1.old (((Bl.refl _).alloc _).alloc _),(HX.out.frSet 6 _).trans (Fr.old H1.base (((Bl.refl _).alloc _).alloc _))⟩
 ·rw [hov] at c12
  have hr:h.doneH v=h:=by unfold Hp.doneH;rw [if_pos hov]
  rw [hr]
  have HOV:Hid (h.over=true):=hov
  clear hr hov
  go_enter Tryz.func42,Tryz.ntmps42
  go_wp2
  (try simp only [Exit.inBlock,Exit.then])
  refine bodyPost_ret (results_cell_row rfl _ _ (w.heap.size+1) _ _ _ _ rfl (blk_at (by simp)) Tryz.underlying28 rfl info_sh) rfl ?_
  exact ⟨rfl,HX.out.old (((Bl.refl _).alloc _).alloc _),Fr.old hbs (((Bl.refl _).alloc _).alloc _)⟩
end Go.Proofs.YtgiiapenmjollabGreat
