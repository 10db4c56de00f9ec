import Derived.Test.YtgiiapenmjollaaGreatSsap
namespace Go.Proofs.YtgiiapenmjollaaGreat
set_option linter.all false
set_option maxHeartbeats 40000000
set_option maxRecDepth 100000
open Go.RowKit
structure Env (w0:World) (g:Ad) (h:Hp):Prop where
 cw:Cw w0 g h
 may:MayF h.file
 mes:MesAt w0 g.M h.file.methods
 inp:IntsAt w0 g.I h.input
theorem Env.of {w0:World} {g:Ad} {h h':Hp} (e:Env w0 g h) (e1:h'.file=h.file) (e2:h'.input=h.input):Env w0 g h' :=
 ⟨⟨e.cw.k,by rw [e1];exact e.cw.cls,by rw [e1];exact e.cw.tree,by rw [e1];exact e.cw.ge,by rw [e1];exact e.cw.le,by rw [e1];exact e.cw.fl⟩,by rw [e1];exact e.may,by rw [e1];exact e.mes,by rw [e2];exact e.inp⟩
theorem Env.le {w0:World} {g:Ad} {h h':Hp} (e:Env w0 g h) (l:Le h h'):Env w0 g h':=e.of l.file l.input
def RunOk (w0:World) (g:Ad) (p n:Nat):Prop :=
 ∀(h:Hp) (m:Me) (P CC K:Option Addr) (pp cc kk:Nat) (A:Option Addr) (ac lb:Nat) (l:List Va) (w:World),
  Hs w0 g w p h→Env w0 g h→h.over=false→h.thrown=-1→Gh 0 h→MeAt w0 m P CC K→smeB h.file.classes h.file.methods.length m=true→(∀i∈m.code,i.ok)→l.length=m.params.length→(∀v∈l,GdV h v)→StkAt lb w A l→l.length≤ac→(h.fuel-h.sh.steps).toNat≤n →
  Calls Tryz.prog 26 #[.pointer (some ⟨p,0,none⟩),meV m P CC K pp cc kk,.slice A l.length ac] w fun e w' =>
   e=.returned (vaV (runP (loopP n) h m l).2)∧Hs w0 g w' p (runP (loopP n) h m l).1∧Fr w0.heap.size g.T w w'
theorem mes_cells {w:World} {A:Option Addr} {l:List Me} (h:MesAt w A l) {i:Nat} (hi:i<l.length):∃b off P C K p c k,A=some ⟨b,off,none⟩ ∧
  (w.cell? ⟨b,off+i*8,none⟩=some (.slice P (nth me0 l i).params.length p)∧w.cell? ⟨b,off+i*8+1,none⟩=some (.int .i64 (nth me0 l i).ret.kind)∧w.cell? ⟨b,off+i*8+2,none⟩=some (.int .i64 (nth me0 l i).ret.cls)
  ∧ w.cell? ⟨b,off+i*8+3,none⟩=some (.int .i64 (nth me0 l i).stack)∧w.cell? ⟨b,off+i*8+4,none⟩=some (.int .i64 (nth me0 l i).locs)∧w.cell? ⟨b,off+i*8+5,none⟩=some (.int .i64 (nth me0 l i).regs)
  ∧ w.cell? ⟨b,off+i*8+6,none⟩=some (.slice C (nth me0 l i).code.length c)∧w.cell? ⟨b,off+i*8+7,none⟩=some (.slice K (nth me0 l i).hands.length k))∧MeAt w (nth me0 l i) P C K:=by
 rcases h.2 with h0|⟨b,off,hA,hc⟩
 ·omega
 obtain ⟨P,C,K,p,c,k,h0,h1,h2,h3,h4,h5,h6,h7,h8⟩:=hc i hi
 exact ⟨b,off,P,C,K,p,c,k,hA,⟨h0,h1,h2,h3,h4,h5,h6,h7⟩,h8⟩
structure MthBox (w:World) (b:Nat) (m:Me) (P C K:Option Addr) (p c k:Nat):Prop where
 blk:w.heap[b]?=some (meBO m P C K p c k)
structure MthCells (w:World) (b:Nat) (m:Me) (P C K:Option Addr) (p c k:Nat):Prop where
 c0:w.cell? ⟨b,0,none⟩=some (.slice P m.params.length p)
 c1:w.cell? ⟨b,1,none⟩=some (.int .i64 m.ret.kind)
 c2:w.cell? ⟨b,2,none⟩=some (.int .i64 m.ret.cls)
 c3:w.cell? ⟨b,3,none⟩=some (.int .i64 m.stack)
 c4:w.cell? ⟨b,4,none⟩=some (.int .i64 m.locs)
 c5:w.cell? ⟨b,5,none⟩=some (.int .i64 m.regs)
 c6:w.cell? ⟨b,6,none⟩=some (.slice C m.code.length c)
 c7:w.cell? ⟨b,7,none⟩=some (.slice K m.hands.length k)
theorem MthBox.cells {w:World} {b:Nat} {m:Me} {P C K:Option Addr} {p c k:Nat} (h:MthBox w b m P C K p c k):MthCells w b m P C K p c k:=by
 constructor<;>(rw [cell_blk h.blk];rfl)
theorem MthBox.fr {B:Nat} {T:TypeId} {w w':World} {b:Nat} {m:Me} {P C K:Option Addr} {p c k:Nat} (h:MthBox w b m P C K p c k) (t:Tk T) (f:Fr B T w w'):MthBox w' b m P C K p c k:=⟨f.keep _ _ _ _ h.blk t.nm⟩
theorem MthBox.fq {B:Nat} {T:TypeId} {a:Ca} {w w':World} {b:Nat} {m:Me} {P C K:Option Addr} {p c k:Nat} (h:MthBox w b m P C K p c k) (t:Tk T) (f:Fq B T a w w') (h1:b≠a.q) (h2:b≠a.lb):MthBox w' b m P C K p c k:=⟨f.keep _ _ _ _ h.blk t.nm h1 h2⟩
theorem call_no (w0:World) (g:Ad) (p:Nat) (h:Hp) (a:Ca) (c:Cal) (ia ib ic ii:Int) (Q:Option Addr) (nl q:Nat) (w:World) (hH:Hs w0 g w p h) (hC:Cs w0 w a c) (E:Env w0 g h) (ho:h.over=false) (hs5:c.stk.length≤500) (hp:0≤c.pc∧c.pc≤100000)
  (hia:0≤ia∧ia<h.file.methods.length) (hpl:(nth me0 h.file.methods ia.toNat).params.length≤4) (hl:c.stk.length<(nth me0 h.file.methods ia.toNat).params.length) :
  Calls Tryz.prog 58 #[.pointer (some ⟨p,0,none⟩),.pointer (some ⟨a.q,0,none⟩),.agg (inC 19 ia ib ic ii Q nl q)] w fun e w' =>
   e=.returned (.int .i64 (c.pc+1))∧Hs w0 g w' p (h.fin 6)∧Cs w0 w' a c∧Fq w0.heap.size g.T a w w':=by
 have hbs:=hH.base
 obtain ⟨A,cap,H0⟩:=hC
 have hq0:a.q<w.heap.size:=lt_some H0.blk
 have hl0:a.lb<w.heap.size:=lt_some H0.loc.blk
 obtain ⟨n,rfl⟩:∃n:Nat,ia=n:=⟨ia.toNat,by omega⟩
 rw [Int.toNat_natCast] at hpl hl
 have hnl:n<h.file.methods.length:=by omega
 have hmm:=E.mes.1
 unfold maxLen at hmm
 obtain ⟨mb,mo,P,CC,K,pp,cc,kk,hM,⟨y0,y1,y2,y3,y4,y5,y6,y7⟩,hme⟩:=mes_cells (E.mes.bl (hH.bl.alloc (.cells (inC 19 (n:Int) ib ic ii Q nl q) 55))) hnl
 have hbl:Bl w (w.alloc (.cells (inC 19 (n:Int) ib ic ii Q nl q) 55)):=(Bl.refl w).alloc _
 have hmb:mb<w.heap.size:=by
  rcases E.mes.2 with h0|⟨b,off,hb,hc⟩
  ·omega
  ·rw [hM] at hb
   simp only [Option.some.injEq,Addr.mk.injEq] at hb
   obtain ⟨rfl,rfl,-⟩:=hb
   obtain ⟨_,_,_,_,_,_,h0,_⟩:=hc n hnl
   have:=cell_lt h0
   omega
 have HK:Hid (Tk g.T):=E.cw.k
 have c1:(w.alloc (.cells (inC 19 (n:Int) ib ic ii Q nl q) 55)).cell? ⟨p,1,none⟩=some (.slice (some ⟨mb,mo,none⟩) h.file.methods.length g.m):=by
  obtain ⟨vo,vx,hv,X⟩:=hH.old hbl
  rw [←hM];exact X.cells.c1
 have hpl':p<w.heap.size:=by obtain ⟨vo,vx,hv,X⟩:=hH;exact lt_some X.blk
 have HI:Hid (InsBox (w.alloc (.cells (inC 19 (n:Int) ib ic ii Q nl q) 55)) w.heap.size 19 (n:Int) ib ic ii):=⟨_,blk_at rfl⟩
 have j1:=HI.out.c1
 have d10:=(H0.old hbl).cells.c10
 have hn0:(0:Int)≤(n:Int):=by omega
 have hn1:(n:Int)<(h.file.methods.length:Int):=by omega
 have hH0:=hH
 have hC0:=H0
 have hov:=ho
 clear hH H0 hbl ho E hM hme hia
 generalize hX:nth me0 h.file.methods n=M at *
 clear hX
 have HFO:Hid ((h.fin 6).over=true):=fin_over hov
 go_enter Tryz.func58,Tryz.ntmps58
 go_wp2
 go_region_held3 (fun w'=>w'.cell? ⟨p,1,none⟩=some (.slice (some ⟨mb,mo,none⟩) h.file.methods.length g.m)∧w'.cell? ⟨w.heap.size,1,none⟩=some (.int .i64 (n:Int))∧w'.cell? ⟨mb,mo+n*8,none⟩=some (.slice P M.params.length pp)∧w'.cell? ⟨mb,mo+n*8+1,none⟩=some (.int .i64 M.ret.kind)∧w'.cell? ⟨mb,mo+n*8+2,none⟩=some (.int .i64 M.ret.cls)∧w'.cell? ⟨mb,mo+n*8+3,none⟩=some (.int .i64 M.stack)∧w'.cell? ⟨mb,mo+n*8+4,none⟩=some (.int .i64 M.locs)∧w'.cell? ⟨mb,mo+n*8+5,none⟩=some (.int .i64 M.regs)∧w'.cell? ⟨mb,mo+n*8+6,none⟩=some (.slice CC M.code.length cc)∧w'.cell? ⟨mb,mo+n*8+7,none⟩=some (.slice K M.hands.length kk))
  (go_keep)
  (fail)
 have hb1:Bl w ((w.alloc (.cells (inC 19 (n:Int) ib ic ii Q nl q) 55)).alloc (meBO M P CC K pp cc kk)).drew:=(((Bl.refl w).alloc _).alloc _).drew
 have HH1:Hid (Hs w0 g ((w.alloc (.cells (inC 19 (n:Int) ib ic ii Q nl q) 55)).alloc (meBO M P CC K pp cc kk)).drew p h):=hH0.old hb1
 have HC1:Hid (CalAt w0 ((w.alloc (.cells (inC 19 (n:Int) ib ic ii Q nl q) 55)).alloc (meBO M P CC K pp cc kk)).drew a c A cap):=hC0.old hb1
 have HF1:Hid (Fr w0.heap.size g.T w ((w.alloc (.cells (inC 19 (n:Int) ib ic ii Q nl q) 55)).alloc (meBO M P CC K pp cc kk)).drew):=Fr.old hbs hb1
 have HM1:Hid (MthBox ((w.alloc (.cells (inC 19 (n:Int) ib ic ii Q nl q) 55)).alloc (meBO M P CC K pp cc kk)).drew (w.heap.size+1) M P CC K pp cc kk):=⟨blk_at (by simp)⟩
 clear hb1
 go_wp2_with (go_at_call 56;refine (take_no w0 g HK.out p h a c M.params.length _ A cap HH1.out HC1.out hov hl hpl).mono ?_;rintro e w1 ⟨A1,cap1,cap2,rfl,st1,h1,c1,f1,-⟩;have o12:w1.cell? ⟨p,12,none⟩=some (.bool true):=(by obtain ⟨vo,vx,hv,X⟩:=h1;rw [X.cells.c12,HFO.out]))
 go_ret
 exact ⟨rfl,h1,⟨A,cap2,c1⟩,HF1.out.fq.trans f1⟩
theorem call_yes (w0:World) (g:Ad) (p:Nat) (h:Hp) (a:Ca) (c:Cal) (ia ib ic ii:Int) (Q:Option Addr) (nl q:Nat) (w:World) (hH:Hs w0 g w p h) (hC:Cs w0 w a c) (E:Env w0 g h) (ho:h.over=false) (hs5:c.stk.length≤500) (hp:0≤c.pc∧c.pc≤100000)
  (hia:0≤ia∧ia<h.file.methods.length) (hpl:(nth me0 h.file.methods ia.toNat).params.length≤4) (hl:(nth me0 h.file.methods ia.toNat).params.length≤c.stk.length) (N:Nat) (IH:RunOk w0 g p N) (gh:Gh 0 h) (hth:h.thrown=-1) (gc:Gc h c) (hN:(h.fuel-h.sh.steps).toNat≤N) :
  Calls Tryz.prog 58 #[.pointer (some ⟨p,0,none⟩),.pointer (some ⟨a.q,0,none⟩),.agg (inC 19 ia ib ic ii Q nl q)] w fun e w' =>
   e=.returned (.int .i64 (c.pc+1))∧Hs w0 g w' p (if ((runP (loopP N) h (nth me0 h.file.methods ia.toNat) (c.top (nth me0 h.file.methods ia.toNat).params.length)).1.stops=false∧(nth me0 h.file.methods ia.toNat).ret.kind≠0) then (runP (loopP N) h (nth me0 h.file.methods ia.toNat) (c.top (nth me0 h.file.methods ia.toNat).params.length)).1.putH (c.cut (nth me0 h.file.methods ia.toNat).params.length) (runP (loopP N) h (nth me0 h.file.methods ia.toNat) (c.top (nth me0 h.file.methods ia.toNat).params.length)).2 else (runP (loopP N) h (nth me0 h.file.methods ia.toNat) (c.top (nth me0 h.file.methods ia.toNat).params.length)).1)∧Cs w0 w' a (if ((runP (loopP N) h (nth me0 h.file.methods ia.toNat) (c.top (nth me0 h.file.methods ia.toNat).params.length)).1.stops=false∧(nth me0 h.file.methods ia.toNat).ret.kind≠0) then (c.cut (nth me0 h.file.methods ia.toNat).params.length).put (runP (loopP N) h (nth me0 h.file.methods ia.toNat) (c.top (nth me0 h.file.methods ia.toNat).params.length)).2 else c.cut (nth me0 h.file.methods ia.toNat).params.length)∧Fq w0.heap.size g.T a w w':=by
 have hbs:=hH.base
 obtain ⟨A,cap,H0⟩:=hC
 have hq0:a.q<w.heap.size:=lt_some H0.blk
 have hl0:a.lb<w.heap.size:=lt_some H0.loc.blk
 obtain ⟨n,rfl⟩:∃n:Nat,ia=n:=⟨ia.toNat,by omega⟩
 rw [Int.toNat_natCast] at hpl hl ⊢
 have hnl:n<h.file.methods.length:=by omega
 have hmm:=E.mes.1
 unfold maxLen at hmm
 obtain ⟨mb,mo,P,CC,K,pp,cc,kk,hM,⟨y0,y1,y2,y3,y4,y5,y6,y7⟩,hme⟩:=mes_cells (E.mes.bl (hH.bl.alloc (.cells (inC 19 (n:Int) ib ic ii Q nl q) 55))) hnl
 have hbl:Bl w (w.alloc (.cells (inC 19 (n:Int) ib ic ii Q nl q) 55)):=(Bl.refl w).alloc _
 have hmb:mb<w.heap.size:=by
  rcases E.mes.2 with h0|⟨b,off,hb,hc⟩
  ·omega
  ·rw [hM] at hb
   simp only [Option.some.injEq,Addr.mk.injEq] at hb
   obtain ⟨rfl,rfl,-⟩:=hb
   obtain ⟨_,_,_,_,_,_,h0,_⟩:=hc n hnl
   have:=cell_lt h0
   omega
 have HK:Hid (Tk g.T):=E.cw.k
 have c1:(w.alloc (.cells (inC 19 (n:Int) ib ic ii Q nl q) 55)).cell? ⟨p,1,none⟩=some (.slice (some ⟨mb,mo,none⟩) h.file.methods.length g.m):=by
  obtain ⟨vo,vx,hv,X⟩:=hH.old hbl
  rw [←hM];exact X.cells.c1
 have hpl':p<w.heap.size:=by obtain ⟨vo,vx,hv,X⟩:=hH;exact lt_some X.blk
 have HI:Hid (InsBox (w.alloc (.cells (inC 19 (n:Int) ib ic ii Q nl q) 55)) w.heap.size 19 (n:Int) ib ic ii):=⟨_,blk_at rfl⟩
 have j1:=HI.out.c1
 have d10:=(H0.old hbl).cells.c10
 have hn0:(0:Int)≤(n:Int):=by omega
 have hn1:(n:Int)<(h.file.methods.length:Int):=by omega
 have hsm:=E.may _ (nth_mem (d:=me0) hnl)
 have hme0:MeAt w0 (nth me0 h.file.methods n) P CC K:=by
  obtain ⟨mb',mo',P',C',K',p',c',k',hM',⟨z0,-,-,-,-,-,z6,z7⟩,hme'⟩:=mes_cells E.mes hnl
  rw [hM] at hM'
  simp only [Option.some.injEq,Addr.mk.injEq] at hM'
  obtain ⟨rfl,rfl,-⟩:=hM'
  have hbw:=hH.bl.alloc (.cells (inC 19 (n:Int) ib ic ii Q nl q) 55)
  have a0:=(hbw.cell z0).symm.trans y0
  have a6:=(hbw.cell z6).symm.trans y6
  have a7:=(hbw.cell z7).symm.trans y7
  simp only [Option.some.injEq,Value.slice.injEq] at a0 a6 a7
  obtain ⟨rfl,-,-⟩:=a0
  obtain ⟨rfl,-,-⟩:=a6
  obtain ⟨rfl,-,-⟩:=a7
  exact hme'
 have HR:Hid (∀(A1:Option Addr) (ac lb:Nat) (w1:World),Hs w0 g w1 p h→StkAt lb w1 A1 (c.top (nth me0 h.file.methods n).params.length)→(nth me0 h.file.methods n).params.length≤ac→Calls Tryz.prog 26 #[.pointer (some ⟨p,0,none⟩),meV (nth me0 h.file.methods n) P CC K pp cc kk,.slice A1 (nth me0 h.file.methods n).params.length ac] w1 fun e w' =>
   e=.returned (vaV (runP (loopP N) h (nth me0 h.file.methods n) (c.top (nth me0 h.file.methods n).params.length)).2)∧Hs w0 g w' p (runP (loopP N) h (nth me0 h.file.methods n) (c.top (nth me0 h.file.methods n).params.length)).1∧Fr w0.heap.size g.T w1 w'):=fun A1 ac lb w1 hs1 st1 hac=>by
  have:=IH h (nth me0 h.file.methods n) P CC K pp cc kk A1 ac lb (c.top (nth me0 h.file.methods n).params.length) w1 hs1 E ho hth gh hme0 hsm.1 hsm.2 (top_length _ _) (fun v hv=>by
   have e:c.top (nth me0 h.file.methods n).params.length=c.stk.drop (c.stk.length-(nth me0 h.file.methods n).params.length):=by unfold Cal.top;rw [if_pos hl]
   rw [e] at hv
   exact gc.stk v (List.mem_of_mem_drop hv)) st1 (by rw [top_length];exact hac) hN
  rw [top_length] at this
  exact this
 clear hsm hme0 IH gh hth gc hN
 have hH0:=hH
 have hC0:=H0
 have hov:=ho
 clear hH H0 hbl ho E hM hme hia
 generalize hX:nth me0 h.file.methods n=M at *
 clear hX
 generalize hr1:(runP (loopP N) h M (c.top M.params.length)).1=R1 at *
 generalize hr2:(runP (loopP N) h M (c.top M.params.length)).2=R2 at *
 clear hr1 hr2
 have n3:w.heap.size+1≠a.q:=by omega
 have n4:w.heap.size+1≠a.lb:=by omega
 have hle:(c.cut M.params.length).stk.length≤1000:=by have:=cut_le c M.params.length;omega
 have hs:c.stk.length≤1000:=by omega
 cases hst:R1.stops
 ·by_cases hk:M.ret.kind=0
  ·rw [if_neg (by omega),if_neg (by omega)]
   have hz:(M.ret.kind !=0)=false:=by simpa using hk
   clear hk
   go_enter Tryz.func58,Tryz.ntmps58
   go_wp2
   go_region_held3 (fun w'=>w'.cell? ⟨p,1,none⟩=some (.slice (some ⟨mb,mo,none⟩) h.file.methods.length g.m)∧w'.cell? ⟨w.heap.size,1,none⟩=some (.int .i64 (n:Int))∧w'.cell? ⟨mb,mo+n*8,none⟩=some (.slice P M.params.length pp)∧w'.cell? ⟨mb,mo+n*8+1,none⟩=some (.int .i64 M.ret.kind)∧w'.cell? ⟨mb,mo+n*8+2,none⟩=some (.int .i64 M.ret.cls)∧w'.cell? ⟨mb,mo+n*8+3,none⟩=some (.int .i64 M.stack)∧w'.cell? ⟨mb,mo+n*8+4,none⟩=some (.int .i64 M.locs)∧w'.cell? ⟨mb,mo+n*8+5,none⟩=some (.int .i64 M.regs)∧w'.cell? ⟨mb,mo+n*8+6,none⟩=some (.slice CC M.code.length cc)∧w'.cell? ⟨mb,mo+n*8+7,none⟩=some (.slice K M.hands.length kk))
    (go_keep)
    (fail)
   have hb1:Bl w ((w.alloc (.cells (inC 19 (n:Int) ib ic ii Q nl q) 55)).alloc (meBO M P CC K pp cc kk)).drew:=(((Bl.refl w).alloc _).alloc _).drew
   have HH1:Hid (Hs w0 g ((w.alloc (.cells (inC 19 (n:Int) ib ic ii Q nl q) 55)).alloc (meBO M P CC K pp cc kk)).drew p h):=hH0.old hb1
   have HC1:Hid (CalAt w0 ((w.alloc (.cells (inC 19 (n:Int) ib ic ii Q nl q) 55)).alloc (meBO M P CC K pp cc kk)).drew a c A cap):=hC0.old hb1
   have HF1:Hid (Fr w0.heap.size g.T w ((w.alloc (.cells (inC 19 (n:Int) ib ic ii Q nl q) 55)).alloc (meBO M P CC K pp cc kk)).drew):=Fr.old hbs hb1
   have HM1:Hid (MthBox ((w.alloc (.cells (inC 19 (n:Int) ib ic ii Q nl q) 55)).alloc (meBO M P CC K pp cc kk)).drew (w.heap.size+1) M P CC K pp cc kk):=⟨blk_at (by simp)⟩
   clear hb1
   go_wp2_with (first
    | (go_at_call 56;refine (take_yesC w0 g HK.out p h a c M.params.length _ A cap HH1.out HC1.out hov hl hs).mono ?_;rintro e w1 ⟨A1,cap1,cap2,rfl,st1,h1,c1,f1,hcap1⟩;have o12:w1.cell? ⟨p,12,none⟩=some (.bool false):=(by obtain ⟨vo,vx,hv,X⟩:=h1;rw [X.cells.c12,hov]);have M2:Hid (MthBox w1 (w.heap.size+1) M P CC K pp cc kk):=HM1.out.fq HK.out f1 n3 n4;have x0:=M2.out.cells.c0;have x1:=M2.out.cells.c1;have x2:=M2.out.cells.c2;have x3:=M2.out.cells.c3;have x4:=M2.out.cells.c4;have x5:=M2.out.cells.c5;have x6:=M2.out.cells.c6;have x7:=M2.out.cells.c7;have H1:Hid (Hs w0 g w1 p h):=h1;have S1:Hid (StkAt a.lb w1 A1 (c.top M.params.length)):=st1;clear h1 st1)
    | (go_at_call 26;refine (HR.out A1 cap1 a.lb _ H1.out S1.out hcap1).mono ?_;rintro e w2 ⟨rfl,h2,f2⟩;have hb2:=h2.base;have M3:=M2.out.fr HK.out f2;have z1:=M3.cells.c1;have hm3:=lt_some M3.blk;clear M3;have bb:Bl w2 (w2.alloc (vaO R2)):=(Bl.refl w2).alloc _;have H2:Hid (Hs w0 g (w2.alloc (vaO R2)) p R1):=h2.old bb;have C2:Hid (CalAt w0 (w2.alloc (vaO R2)) a (c.cut M.params.length) A cap2):=(c1.fr HK.out f2).old bb;have F2:Hid (Fq w0.heap.size g.T a w (w2.alloc (vaO R2))):=((HF1.out.fq.trans f1).trans f2.fq).trans (Fr.fq (Fr.old hb2 bb));have z2:=bb.cell z1;clear h2 f2 bb)
    | (go_at_call 112;refine (stops_any w0 g p R1 _ H2.out).mono ?_;rintro e w4 ⟨he,hw4⟩;rw [hst] at he;subst he;rw [hw4];clear hw4 w4))
   go_ret
   exact ⟨rfl,H2.out,⟨A,cap2,C2.out⟩,F2.out⟩
  ·rw [if_pos ⟨rfl,hk⟩,if_pos ⟨rfl,hk⟩]
   have hz:(M.ret.kind !=0)=true:=by simpa using hk
   clear hk
   go_enter Tryz.func58,Tryz.ntmps58
   go_wp2
   go_region_held3 (fun w'=>w'.cell? ⟨p,1,none⟩=some (.slice (some ⟨mb,mo,none⟩) h.file.methods.length g.m)∧w'.cell? ⟨w.heap.size,1,none⟩=some (.int .i64 (n:Int))∧w'.cell? ⟨mb,mo+n*8,none⟩=some (.slice P M.params.length pp)∧w'.cell? ⟨mb,mo+n*8+1,none⟩=some (.int .i64 M.ret.kind)∧w'.cell? ⟨mb,mo+n*8+2,none⟩=some (.int .i64 M.ret.cls)∧w'.cell? ⟨mb,mo+n*8+3,none⟩=some (.int .i64 M.stack)∧w'.cell? ⟨mb,mo+n*8+4,none⟩=some (.int .i64 M.locs)∧w'.cell? ⟨mb,mo+n*8+5,none⟩=some (.int .i64 M.regs)∧w'.cell? ⟨mb,mo+n*8+6,none⟩=some (.slice CC M.code.length cc)∧w'.cell? ⟨mb,mo+n*8+7,none⟩=some (.slice K M.hands.length kk))
    (go_keep)
    (fail)
   have hb1:Bl w ((w.alloc (.cells (inC 19 (n:Int) ib ic ii Q nl q) 55)).alloc (meBO M P CC K pp cc kk)).drew:=(((Bl.refl w).alloc _).alloc _).drew
   have HH1:Hid (Hs w0 g ((w.alloc (.cells (inC 19 (n:Int) ib ic ii Q nl q) 55)).alloc (meBO M P CC K pp cc kk)).drew p h):=hH0.old hb1
   have HC1:Hid (CalAt w0 ((w.alloc (.cells (inC 19 (n:Int) ib ic ii Q nl q) 55)).alloc (meBO M P CC K pp cc kk)).drew a c A cap):=hC0.old hb1
   have HF1:Hid (Fr w0.heap.size g.T w ((w.alloc (.cells (inC 19 (n:Int) ib ic ii Q nl q) 55)).alloc (meBO M P CC K pp cc kk)).drew):=Fr.old hbs hb1
   have HM1:Hid (MthBox ((w.alloc (.cells (inC 19 (n:Int) ib ic ii Q nl q) 55)).alloc (meBO M P CC K pp cc kk)).drew (w.heap.size+1) M P CC K pp cc kk):=⟨blk_at (by simp)⟩
   clear hb1
   go_wp2_with (first
    | (go_at_call 56;refine (take_yesC w0 g HK.out p h a c M.params.length _ A cap HH1.out HC1.out hov hl hs).mono ?_;rintro e w1 ⟨A1,cap1,cap2,rfl,st1,h1,c1,f1,hcap1⟩;have o12:w1.cell? ⟨p,12,none⟩=some (.bool false):=(by obtain ⟨vo,vx,hv,X⟩:=h1;rw [X.cells.c12,hov]);have M2:Hid (MthBox w1 (w.heap.size+1) M P CC K pp cc kk):=HM1.out.fq HK.out f1 n3 n4;have x0:=M2.out.cells.c0;have x1:=M2.out.cells.c1;have x2:=M2.out.cells.c2;have x3:=M2.out.cells.c3;have x4:=M2.out.cells.c4;have x5:=M2.out.cells.c5;have x6:=M2.out.cells.c6;have x7:=M2.out.cells.c7;have H1:Hid (Hs w0 g w1 p h):=h1;have S1:Hid (StkAt a.lb w1 A1 (c.top M.params.length)):=st1;clear h1 st1)
    | (go_at_call 26;refine (HR.out A1 cap1 a.lb _ H1.out S1.out hcap1).mono ?_;rintro e w2 ⟨rfl,h2,f2⟩;have hb2:=h2.base;have M3:=M2.out.fr HK.out f2;have z1:=M3.cells.c1;have hm3:=lt_some M3.blk;clear M3;have bb:Bl w2 (w2.alloc (vaO R2)):=(Bl.refl w2).alloc _;have H2:Hid (Hs w0 g (w2.alloc (vaO R2)) p R1):=h2.old bb;have C2:Hid (CalAt w0 (w2.alloc (vaO R2)) a (c.cut M.params.length) A cap2):=(c1.fr HK.out f2).old bb;have F2:Hid (Fq w0.heap.size g.T a w (w2.alloc (vaO R2))):=((HF1.out.fq.trans f1).trans f2.fq).trans (Fr.fq (Fr.old hb2 bb));have z2:=bb.cell z1;clear h2 f2 bb)
    | (go_at_call 112;refine (stops_any w0 g p R1 _ H2.out).mono ?_;rintro e w4 ⟨he,hw4⟩;rw [hst] at he;subst he;rw [hw4];clear hw4 w4)
    | (go_at_call 60;refine (cput_any w0 g HK.out p R1 a (c.cut M.params.length) R2 _ H2.out ⟨A,cap2,C2.out⟩ hle).mono ?_;rintro e w5 ⟨rfl,h5,c5,f5⟩))
   go_ret
   exact ⟨rfl,h5,c5,F2.out.trans f5⟩
 ·rw [if_neg (by simp),if_neg (by simp)]
  go_enter Tryz.func58,Tryz.ntmps58
  go_wp2
  go_region_held3 (fun w'=>w'.cell? ⟨p,1,none⟩=some (.slice (some ⟨mb,mo,none⟩) h.file.methods.length g.m)∧w'.cell? ⟨w.heap.size,1,none⟩=some (.int .i64 (n:Int))∧w'.cell? ⟨mb,mo+n*8,none⟩=some (.slice P M.params.length pp)∧w'.cell? ⟨mb,mo+n*8+1,none⟩=some (.int .i64 M.ret.kind)∧w'.cell? ⟨mb,mo+n*8+2,none⟩=some (.int .i64 M.ret.cls)∧w'.cell? ⟨mb,mo+n*8+3,none⟩=some (.int .i64 M.stack)∧w'.cell? ⟨mb,mo+n*8+4,none⟩=some (.int .i64 M.locs)∧w'.cell? ⟨mb,mo+n*8+5,none⟩=some (.int .i64 M.regs)∧w'.cell? ⟨mb,mo+n*8+6,none⟩=some (.slice CC M.code.length cc)∧w'.cell? ⟨mb,mo+n*8+7,none⟩=some (.slice K M.hands.length kk))
   (go_keep)
   (fail)
  have hb1:Bl w ((w.alloc (.cells (inC 19 (n:Int) ib ic ii Q nl q) 55)).alloc (meBO M P CC K pp cc kk)).drew:=(((Bl.refl w).alloc _).alloc _).drew
  have HH1:Hid (Hs w0 g ((w.alloc (.cells (inC 19 (n:Int) ib ic ii Q nl q) 55)).alloc (meBO M P CC K pp cc kk)).drew p h):=hH0.old hb1
  have HC1:Hid (CalAt w0 ((w.alloc (.cells (inC 19 (n:Int) ib ic ii Q nl q) 55)).alloc (meBO M P CC K pp cc kk)).drew a c A cap):=hC0.old hb1
  have HF1:Hid (Fr w0.heap.size g.T w ((w.alloc (.cells (inC 19 (n:Int) ib ic ii Q nl q) 55)).alloc (meBO M P CC K pp cc kk)).drew):=Fr.old hbs hb1
  have HM1:Hid (MthBox ((w.alloc (.cells (inC 19 (n:Int) ib ic ii Q nl q) 55)).alloc (meBO M P CC K pp cc kk)).drew (w.heap.size+1) M P CC K pp cc kk):=⟨blk_at (by simp)⟩
  clear hb1
  go_wp2_with (first
   | (go_at_call 56;refine (take_yesC w0 g HK.out p h a c M.params.length _ A cap HH1.out HC1.out hov hl hs).mono ?_;rintro e w1 ⟨A1,cap1,cap2,rfl,st1,h1,c1,f1,hcap1⟩;have o12:w1.cell? ⟨p,12,none⟩=some (.bool false):=(by obtain ⟨vo,vx,hv,X⟩:=h1;rw [X.cells.c12,hov]);have M2:Hid (MthBox w1 (w.heap.size+1) M P CC K pp cc kk):=HM1.out.fq HK.out f1 n3 n4;have x0:=M2.out.cells.c0;have x1:=M2.out.cells.c1;have x2:=M2.out.cells.c2;have x3:=M2.out.cells.c3;have x4:=M2.out.cells.c4;have x5:=M2.out.cells.c5;have x6:=M2.out.cells.c6;have x7:=M2.out.cells.c7;have H1:Hid (Hs w0 g w1 p h):=h1;have S1:Hid (StkAt a.lb w1 A1 (c.top M.params.length)):=st1;clear h1 st1)
   | (go_at_call 26;refine (HR.out A1 cap1 a.lb _ H1.out S1.out hcap1).mono ?_;rintro e w2 ⟨rfl,h2,f2⟩;have hb2:=h2.base;have M3:=M2.out.fr HK.out f2;have z1:=M3.cells.c1;have hm3:=lt_some M3.blk;clear M3;have bb:Bl w2 (w2.alloc (vaO R2)):=(Bl.refl w2).alloc _;have H2:Hid (Hs w0 g (w2.alloc (vaO R2)) p R1):=h2.old bb;have C2:Hid (CalAt w0 (w2.alloc (vaO R2)) a (c.cut M.params.length) A cap2):=(c1.fr HK.out f2).old bb;have F2:Hid (Fq w0.heap.size g.T a w (w2.alloc (vaO R2))):=((HF1.out.fq.trans f1).trans f2.fq).trans (Fr.fq (Fr.old hb2 bb));have z2:=bb.cell z1;clear h2 f2 bb)
   | (go_at_call 112;refine (stops_any w0 g p R1 _ H2.out).mono ?_;rintro e w4 ⟨he,hw4⟩;rw [hst] at he;subst he;rw [hw4];clear hw4 w4))
  go_ret
  exact ⟨rfl,H2.out,⟨A,cap2,C2.out⟩,F2.out⟩
theorem call_any (w0:World) (g:Ad) (p:Nat) (h:Hp) (a:Ca) (c:Cal) (i:In) (Q:Option Addr) (nl q:Nat) (w:World) (hH:Hs w0 g w p h) (hC:Cs w0 w a c) (E:Env w0 g h) (ho:h.over=false) (hs5:c.stk.length≤500) (hp:0≤c.pc∧c.pc≤100000)
  (hop:i.op=19) (hia:0≤i.a∧i.a<h.file.methods.length) (N:Nat) (IH:RunOk w0 g p N) (gh:Gh 0 h) (hth:h.thrown=-1) (gc:Gc h c) (hN:(h.fuel-h.sh.steps).toNat≤N) :
  Calls Tryz.prog 58 #[.pointer (some ⟨p,0,none⟩),.pointer (some ⟨a.q,0,none⟩),.agg (inC i.op i.a i.b i.c i.n Q nl q)] w fun e w' =>
   e=.returned (.int .i64 (callP (loopP N) h c i).nx)∧Hs w0 g w' p (callP (loopP N) h c i).h∧Cs w0 w' a (callP (loopP N) h c i).c∧Fq w0.heap.size g.T a w w':=by
 have hpl:(nth me0 h.file.methods i.a.toNat).params.length≤4:=(smeP (E.may _ (nth_mem (by omega))).1).2.2.2.2.1
 rw [hop]
 unfold callP
 dsimp only
 by_cases hl:(nth me0 h.file.methods i.a.toNat).params.length≤c.stk.length
 ·rw [must_has hl,if_neg (by rw [ho];decide)]
  have:=call_yes w0 g p h a c i.a i.b i.c i.n Q nl q w hH hC E ho hs5 hp hia hpl hl N IH gh hth gc hN
  split
  ·rename_i hx;rw [if_pos hx,if_pos hx] at this;exact this
  ·rename_i hx;rw [if_neg hx,if_neg hx] at this;exact this
 ·rw [must_hasn hl,cut_no hl,if_pos (fin_over ho)]
  exact call_no w0 g p h a c i.a i.b i.c i.n Q nl q w hH hC E ho hs5 hp hia hpl (by omega)
def doP (N:Nat) (h:Hp) (c:Cal) (i:In):Did:=if i.op=19 then callP (loopP N) h c i else doesP h c i
theorem do_kept {N:Nat} {h:Hp} {c:Cal} {i:In} (hmay:MayF h.file) (gh:Gh 1 h) (gc:Gc h c) (ho:h.over=false) (hth:h.thrown=-1) (ok:InOk h.file.classes h.file.methods.length c.m.code.length c.locs.length i) (iok:i.ok) (hp:0≤c.pc∧c.pc<c.m.code.length):Kept h c (doP N h c i):=by
 unfold doP;split
 ·rename_i e
  exact call_kept (loop_kept h.file hmay N) rfl gh.less gc ho hth hmay (ok.call e) hp
 ·exact does_kept gh gc ho hth ok iok hp
theorem do_any (w0:World) (g:Ad) (p:Nat) (h:Hp) (a:Ca) (c:Cal) (i:In) (Q:Option Addr) (nl q:Nat) (w:World) (hH:Hs w0 g w p h) (hC:Cs w0 w a c) (E:Env w0 g h) (ho:h.over=false) (hp:0≤c.pc∧c.pc<c.m.code.length)
  (h20:i.op≠20) (N:Nat) (IH:RunOk w0 g p N) (gh:Gh 1 h) (hth:h.thrown=-1) (gc:Gc h c) (ok:InOk h.file.classes h.file.methods.length c.m.code.length c.locs.length i) (hN:(h.fuel-h.sh.steps).toNat≤N) :
  Calls Tryz.prog 58 #[.pointer (some ⟨p,0,none⟩),.pointer (some ⟨a.q,0,none⟩),.agg (inC i.op i.a i.b i.c i.n Q nl q)] w fun e w' =>
   e=.returned (.int .i64 (doP N h c i).nx)∧Hs w0 g w' p (doP N h c i).h∧Cs w0 w' a (doP N h c i).c∧Fq w0.heap.size g.T a w w':=by
 have hs:=gc.short
 have hcl:=(smeP gc.me).2.2.2.2.2.2.1
 have hout:=gh.out
 have hst:=gh.steps
 have hfu:=gh.fuel
 unfold doP;split
 ·rename_i e
  exact call_any w0 g p h a c i Q nl q w hH hC E ho (by omega) (by omega) e (ok.call e) N IH gh.less hth gc hN
 ·rename_i e
  exact does_any w0 g p h a c i Q nl q w hH hC E.cw ho (by omega) (by omega) h.file.methods.length c.m.code.length ok e h20 gc.stk gc.ok E.inp gh.used (by omega)
theorem make_vaI (k:Int) (h0:0≤k) (hn:k≤1000000) (u:World):(Instr.makeSlice 58 (.int .i64 k) (.int .i64 k)).run Tryz.prog u=.ok (.slice (some ⟨u.heap.size,0,none⟩) k.toNat k.toNat) (u.alloc (.cells (vaCells (List.replicate k.toNat va0)).toArray 62)):=by
 have:=make_va k.toNat (by omega) u
 rw [Int.toNat_of_nonneg h0] at this
 exact this
theorem run_no (w0:World) (g:Ad) (p:Nat) (h:Hp) (m:Me) (P CC K:Option Addr) (pp cc kk:Nat) (A:Option Addr) (ac lb:Nat) (l:List Va) (w:World) (hH:Hs w0 g w p h) (E:Env w0 g h) (ho:h.over=false) (gh:Gh 0 h) (hme:MeAt w0 m P CC K) (hl:l.length=m.params.length) (hg:∀v∈l,GdV h v) (hA:StkAt lb w A l) (hb:h.enterB m l=false) :
  Calls Tryz.prog 26 #[.pointer (some ⟨p,0,none⟩),meV m P CC K pp cc kk,.slice A l.length ac] w fun e w'=>e=.returned (vaV va0)∧Hs w0 g w' p (h.enterH m l)∧Fr w0.heap.size g.T w w':=by
 have hbs:=hH.base
 have hbl:Bl w ((w.alloc (meBO m P CC K pp cc kk)).alloc vzO):=((Bl.refl w).alloc _).alloc _
 have HF:Hid (Fr w0.heap.size g.T w ((w.alloc (meBO m P CC K pp cc kk)).alloc vzO)):=Fr.old hbs hbl
 have HH:Hid (Hs w0 g ((w.alloc (meBO m P CC K pp cc kk)).alloc vzO) p h):=hH.old hbl
 have HR:Hid (VaBox ((w.alloc (meBO m P CC K pp cc kk)).alloc vzO) (w.heap.size+1) va0):=⟨blk_at (by simp)⟩
 have HA:Hid (StkAt lb ((w.alloc (meBO m P CC K pp cc kk)).alloc vzO) A l):=hA.keep fun b cs f e _=>(hbl.block _ (lt_some e)).trans e
 have HK:Hid (Tk g.T):=E.cw.k
 have HC:Hid (Cw w0 g h):=E.cw
 have HP:Hid (TysAt w0 P m.params):=hme.1
 have HL:Hid (l.length=m.params.length):=hl
 have HG:Hid (∀v∈l,v.kind=3→v.n<h.objs.length):=fun v hv e=>((hg v hv).ref e).2
 have HB:Hid (h.enterB m l=false):=hb
 have hcl:=gh.calls
 have hbs1:w0.heap.size≤w.heap.size+1:=by omega
 have hle1:w.heap.size≤w.heap.size+1:=by omega
 clear hH E hme hl hg hA hb hbl gh
 go_enter Tryz.func26,Tryz.ntmps26
 go_wp2_with (go_at_call 51;refine (enter_any w0 g p h m P CC K pp cc kk A ac lb l _ HH.out HC.out ho HP.out HL.out HA.out HG.out hcl).mono ?_;rintro e w1 ⟨he,h1,f1⟩;rw [HB.out] at he;subst he;have b1:=HR.out.keep HK.out f1;have r0:=b1.c0;have r1:=b1.c1;have r2:=b1.fr 0;have r3:=b1.fr 1;have HB1:Hid (VaBox w1 (w.heap.size+1) va0):=b1;clear b1)
 (try simp only [Exit.inBlock,Exit.then])
 refine bodyPost_ret (results_cell_row rfl _ _ (w.heap.size+1) _ _ _ _ rfl (HB1.out.set va0).blk Tryz.underlying62 rfl info_va) rfl ?_
 exact ⟨rfl,h1.cf (HB1.out.cf HK.out hbs1 _ _),((HF.out.trans f1).new hle1 hbs1 _).new hle1 hbs1 _⟩
end Go.Proofs.YtgiiapenmjollaaGreat
