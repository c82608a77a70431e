/- Any frame: what is known of one that is right; package still: Counts of one that isn't; of any frame that is right: rank is as many as don't hang together. -/
import Derived.Test.YtbbkamnfjejceaaGreatDoorP37BalF
namespace Go.Proofs.YtbbkamnfjejceaaGreatDoor
open Go.RowKit
set_option linter.unusedVariables false
set_option linter.unusedSimpArgs false
def textD{H:Type}(s:ByteArray):DataW H:=.lit (.string s.data.toList)
def spotD{H:Type}(s:S2):DataW H:=.agg [textD s.x,textD s.y]
def barD{H:Type}(b:B6):DataW H:=.agg [.lit (.int .i64 b.a),.lit (.int .i64 b.b),textD b.c,textD b.e,textD b.l,textD b.m]
def holdD{H:Type}(h:H3):DataW H:=.agg [.lit (.int .i64 h.j),.lit (.int .i64 h.w),textD h.q]
section
variable {H:Type} {enc:TypeId × Value→H} {P:Program} {w:World} {base:Nat} {spare:Nat→Bool} {held:Bool} {fuel:Nat} {cs:List Value} {x:DataW H × List MemPlace} {tE tS tQ tI tI':TypeId} {f0 f1 f2 f3 f4 f5:Field}
theorem Qnu(uB:P.underlying tE=some (.struct #[f0,f1,f2,f3,f4,f5]))(uQ:P.underlying tQ=some .string)(uI:P.underlying tI=some (.int .i64))(cB:P.cellsOf tE=6)(cQ:P.cellsOf tQ=1)(cI:P.cellsOf tI=1)
 (t0:f0.type=tI) (t1:f1.type=tI) (t2:f2.type=tQ) (t3:f3.type=tQ) (t4:f4.type=tQ) (t5:f5.type=tQ) (o0:f0.offset=0) (o1:f1.offset=1) (o2:f2.offset=2) (o3:f3.offset=3) (o4:f4.offset=4) (o5:f5.offset=5)
 (h:DataW.trod enc P w base spare held fuel tE cs=some x):∃b:B6,cs=b.cells∧x.1=barD b:=by
 obtain⟨xs,n,rfl,rfl,hl,hxl,hf⟩:=DataW.trod_struct uB h;rw[cB] at hl;clear h;have h0:=hf 0 f0 rfl;have h1:=hf 1 f1 rfl;have h2:=hf 2 f2 rfl;have h3:=hf 3 f3 rfl;have h4:=hf 4 f4 rfl;have h5:=hf 5 f5 rfl;rw[t0,o0,cI] at h0;rw[t1,o1,cI] at h1;rw[t2,o2,cQ] at h2;rw[t3,o3,cQ] at h3;rw[t4,o4,cQ] at h4;rw[t5,o5,cQ] at h5;clear hf
 match cs,hl,xs,hxl with
 | [v0,v1,v2,v3,v4,v5],_,[y0,y1,y2,y3,y4,y5],_=>
   simp only[List.drop_zero,List.drop_succ_cons,List.take_succ_cons,List.take_zero,List.getElem?_cons_zero,List.getElem?_cons_succ] at h0 h1 h2 h3 h4 h5;obtain⟨a,e0,rfl,_⟩:=DataW.trod_int uI h0;obtain⟨b,e1,rfl,_⟩:=DataW.trod_int uI h1;obtain⟨c,e2,rfl,_⟩:=DataW.trod_string uQ h2;obtain⟨e,e3,rfl,_⟩:=DataW.trod_string uQ h3;obtain⟨l,e4,rfl,_⟩:=DataW.trod_string uQ h4;obtain⟨m,e5,rfl,_⟩:=DataW.trod_string uQ h5;obtain rfl:v0=_:=by simpa using e0
   obtain rfl:v1=_:=by simpa using e1
   obtain rfl:v2=_:=by simpa using e2
   obtain rfl:v3=_:=by simpa using e3
   obtain rfl:v4=_:=by simpa using e4
   obtain rfl:v5=_:=by simpa using e5
   exact⟨⟨a,b,c,e,l,m⟩,rfl,rfl⟩
theorem Qnv(uB:P.underlying tE=some (.struct #[f0,f1,f2]))(uQ:P.underlying tQ=some .string)(uI:P.underlying tI=some (.int .i64))(uI':P.underlying tI'=some (.int .i64))(cB:P.cellsOf tE=3)(cQ:P.cellsOf tQ=1)(cI:P.cellsOf tI=1)(cI':P.cellsOf tI'=1)
 (t0:f0.type=tI) (t1:f1.type=tI') (t2:f2.type=tQ) (o0:f0.offset=0) (o1:f1.offset=1) (o2:f2.offset=2)
 (h:DataW.trod enc P w base spare held fuel tE cs=some x):∃b:H3,cs=b.cells∧x.1=holdD b:=by
 obtain⟨xs,n,rfl,rfl,hl,hxl,hf⟩:=DataW.trod_struct uB h;rw[cB] at hl;clear h;have h0:=hf 0 f0 rfl;have h1:=hf 1 f1 rfl;have h2:=hf 2 f2 rfl;rw[t0,o0,cI] at h0;rw[t1,o1,cI'] at h1;rw[t2,o2,cQ] at h2;clear hf
 match cs,hl,xs,hxl with
 | [v0,v1,v2],_,[y0,y1,y2],_=>
   simp only[List.drop_zero,List.drop_succ_cons,List.take_succ_cons,List.take_zero,List.getElem?_cons_zero,List.getElem?_cons_succ] at h0 h1 h2;obtain⟨a,e0,rfl,_⟩:=DataW.trod_int uI h0;obtain⟨b,e1,rfl,_⟩:=DataW.trod_int uI' h1;obtain⟨c,e2,rfl,_⟩:=DataW.trod_string uQ h2;obtain rfl:v0=_:=by simpa using e0
   obtain rfl:v1=_:=by simpa using e1
   obtain rfl:v2=_:=by simpa using e2
   exact⟨⟨a,b,c⟩,rfl,rfl⟩
theorem Qnw(u:P.underlying tE=some (.struct #[f0,f1,f2]))(cB:P.cellsOf tE=3){t0 t1 t2:TypeId}(e0:f0.type=t0)(e1:f1.type=t1)(e2:f2.type=t2)(k0:P.cellsOf t0=1)(k1:P.cellsOf t1=1)(k2:P.cellsOf t2=1)(o0:f0.offset=0)(o1:f1.offset=1)(o2:f2.offset=2)
 (h:DataW.trod enc P w base spare held fuel tE cs=some x):∃n v0 v1 v2 y0 y1 y2,cs= [v0,v1,v2]∧x.1=.agg [y0.1,y1.1,y2.1]∧DataW.trod enc P w base spare held n t0 [v0]=some y0∧DataW.trod enc P w base spare held n t1 [v1]=some y1∧DataW.trod enc P w base spare held n t2 [v2]=some y2:=by
 obtain⟨xs,n,rfl,rfl,hl,hxl,hf⟩:=DataW.trod_struct u h;rw[cB] at hl;clear h;have h0:=hf 0 f0 rfl;have h1:=hf 1 f1 rfl;have h2:=hf 2 f2 rfl;rw[e0,o0,k0] at h0;rw[e1,o1,k1] at h1;rw[e2,o2,k2] at h2;clear hf
 match cs,hl,xs,hxl with
 | [v0,v1,v2],_,[y0,y1,y2],_=>
   simp only[List.drop_zero,List.drop_succ_cons,List.take_succ_cons,List.take_zero,List.getElem?_cons_zero,List.getElem?_cons_succ] at h0 h1 h2;exact⟨n,v0,v1,v2,y0,y1,y2,rfl,rfl,h0,h1,h2⟩
theorem Qee{α:Type}{c:α→List Value}{dat:α→DataW H}{sz:Nat}{t:TypeId}(dflt:α)(hsz:0<sz)(hc:∀e,(c e).length=sz)(ut:P.underlying t=some (.slice tE))(cE:P.cellsOf tE=sz)
 (each:∀(fuel:Nat) (cs:List Value) (x:DataW H × List MemPlace),DataW.trod enc P w base spare held fuel tE cs=some x→∃e,cs=c e∧x.1=dat e)
 (h:DataW.trod enc P w base spare held fuel t cs=some x):
 ∃(a:Option Addr) (cap:Nat) (es:List α),cs= [.slice a es.length cap]∧ARow c w a cap es∧(∀l r,x.1=.slice l r→l=es.map dat)∧((es= []∧x.1=.nil)∨∃l r,x.1=.slice l r):=by
 rcases Deep.open_slice ut h with ⟨rfl,rfl⟩|⟨a,len,cap,m,n,D,Pl,rfl,hb,hlc,hcm,hm,rfl,hD⟩
 · exact⟨none,0,[],rfl,⟨by simp,⟨fun j u hj=>by simp at hj⟩⟩,fun l r e=>by simp at e,.inl ⟨rfl,rfl⟩⟩
 have hlm:len≤m:=by rw[hm];split<;>omega
 have eachI:∀i,∃f:α,i<len→w.cells? base (a.add (i*sz)) sz=some (c f)∧D i=dat f:=by
  intro i;by_cases hi:i<len
  ·
   obtain⟨cs',h1,h2⟩:=hD i (by omega);obtain⟨f,rfl,hd⟩:=each _ _ _ h2;rw[cE] at h1;exact⟨f,fun _=>⟨h1,hd⟩⟩
  · exact⟨dflt,fun h=>absurd h hi⟩
 obtain⟨F,hF⟩:=Classical.axiomOfChoice eachI;refine⟨some a,cap,(List.range len).map F,by simp,⟨by simpa using hlc,⟨?_⟩⟩,?_,.inr ⟨_,_,rfl⟩⟩
 ·
  intro j u hj;have hjl:=(List.getElem?_eq_some_iff.1 hj).1;rw[Qbo hc] at hjl;simp only[List.length_map,List.length_range] at hjl;have hil:j / sz<len:=(Nat.div_lt_iff_lt_mul hsz).2 hjl;have hkl:j % sz<sz:=Nat.mod_lt _ hsz;obtain⟨u',hu'⟩:∃u',(c (F (j / sz)))[j % sz]?=some u':=⟨_,List.getElem?_eq_getElem (by rw[hc];exact hkl)⟩;have h1:((List.range len).map F)[j / sz]?=some (F (j / sz)):=by simp[hil]
  have h2:=Qbp hc _ _ _ _ _ h1 hu';rw[Nat.div_add_mod' j sz,hj] at h2;obtain rfl:=Option.some.inj h2;obtain⟨hcl,_⟩:=hF _ hil;obtain⟨_,_,hcell⟩:=World.cells?_some hcl;obtain⟨b,off,sp⟩:=a;have c0:=hcell (j % sz) (by omega);have z:=(World.cells?_some (hF 0 (Nat.lt_of_le_of_lt (Nat.zero_le _) hil)).1).2.2 0 hsz;have hsp:sp=none:=by
   cases sp with
   |none=>rfl
   |some v=>
    exfalso
    obtain⟨z0,hz0⟩:∃z0,(c (F 0))[0]?=some z0:=⟨_,List.getElem?_eq_getElem (by rw[hc];exact hsz)⟩;rw[hz0] at z;simp only[Nat.zero_mul,Addr.add,if_true,World.cell?] at z
    split at z<;>simp at z
  subst hsp;have ea:∀j k,(Addr.add ⟨b,off,none⟩ j).add k=⟨b,off+j+k,none⟩:=by
   intro j k;unfold Addr.add;by_cases hj:j=0<;>by_cases hk:k=0<;>simp[hj,hk]
  rw[ea,hu',Nat.add_assoc,Nat.div_add_mod'] at c0;exact⟨b,off,rfl,World.block_lt_of_cell? _ _ c0,c0⟩
 ·
  intro l r e;have e1:(List.range len).map D=l:=by simpa using (DataW.slice.inj e).1
  rw[←e1,List.map_map];refine List.map_congr_left fun i hi=>?_
  exact(hF i (by simpa using hi)).2
end
end Go.Proofs.YtbbkamnfjejceaaGreatDoor
namespace Go.Proofs.YtbbkamnfjejceaaGreatDoor
open Go.ChangeShapes Go.WideShapes Go.ChangeAt Go.RowKit
set_option linter.unusedVariables false
set_option linter.unusedSimpArgs false
theorem Qhx:Tryz.prog.cellsOf 68=6:=by kernel_rfl
theorem Qhy:Tryz.prog.cellsOf 122=3:=by kernel_rfl
theorem Qog:Tryz.prog.cellsOf 50=1:=by kernel_rfl
theorem Qoh:Tryz.prog.cellsOf 51=1:=by kernel_rfl
theorem Qoi:Tryz.prog.cellsOf 52=1:=by kernel_rfl
theorem Qoj:Tryz.prog.cellsOf 54=3:=by kernel_rfl
theorem Qok:Tryz.prog.readableRec 54=true:=by kernel_rfl
theorem Qol:54<Tryz.prog.types.size:=by refine of_decide_eq_true ?_;kernel_rfl
section
variable {H:Type}
theorem Qeh{α:Type}(dat:α→DataW H)(hd:∀e,1≤Rows.uptoBulk (dat e))(es:List α):es.length≤Rows.uptoBulkAll (es.map dat):=by
 induction es with
 |nil=>simp
 |cons e l ih=>
  have:=hd e;simp only[List.map_cons,Rows.uptoBulkAll,List.length_cons];omega
theorem Qcv{α:Type}{dat:α→DataW H}{es:List α}{d:DataW H}{N:Nat}(hb:Rows.uptoBulk d≤N)(hl:∀l r,d=.slice l r→l=es.map dat)(hs:(es= []∧d=.nil)∨∃l r,d=.slice l r):Rows.uptoBulkAll (es.map dat)≤N:=by
 rcases hs with ⟨rfl,_⟩|⟨l,r,rfl⟩
 · simp[Rows.uptoBulkAll]
 · rw[←hl l r rfl]
   exact Nat.le_trans (Qn9 l r) hb
theorem Qhz(s:S2):1≤Rows.uptoBulk (spotD (H:=H) s)∧s.x.size+s.y.size≤Rows.uptoBulk (spotD (H:=H) s):=by
 simp[spotD,textD,Rows.uptoBulk,Rows.uptoBulkAll];omega
theorem Qh0(b:B6):1≤Rows.uptoBulk (barD (H:=H) b)∧b.c.size+b.e.size+b.l.size+b.m.size≤Rows.uptoBulk (barD (H:=H) b):=by
 simp[barD,textD,Rows.uptoBulk,Rows.uptoBulkAll];omega
theorem Qh1(h:H3):1≤Rows.uptoBulk (holdD (H:=H) h)∧h.q.size≤Rows.uptoBulk (holdD (H:=H) h):=by
 simp[holdD,textD,Rows.uptoBulk,Rows.uptoBulkAll];omega
theorem Qei{α:Type}(dat:α→DataW H){es:List α}{e:α}(he:e∈ es):Rows.uptoBulk (dat e)≤Rows.uptoBulkAll (es.map dat):=Qhv (List.mem_map.2 ⟨e,he,rfl⟩)
variable {enc:TypeId × Value→H} {W:World}
theorem Qom{cs:Array Value}{d:DataW H}{ps:List MemPlace}(hb:Rows.uptoBulk d≤1048576)
 (h:DataW.Trod enc Tryz.prog W 0 (fun _=>true) true 54 (.agg cs) d ps):
 ∃(a1 a2 a3:Option Addr) (c1 c2 c3:Nat) (js:List S2) (bs:List B6) (hs:List H3),cs=#[.slice a1 js.length c1,.slice a2 bs.length c2,.slice a3 hs.length c3]∧FrRow W a1 a2 a3 c1 c2 c3 js bs hs∧FrSized js bs hs∧js.length≤1048576∧bs.length≤1048576∧hs.length≤1048576∧Rows.uptoBulkAll (js.map (spotD (H:=H)))≤Rows.uptoBulk d:=by
 obtain⟨fuel,h⟩:=h;obtain⟨n,v0,v1,v2,y0,y1,y2,hcs,hx,h0,h1,h2⟩:=Qnw Tryz.underlying54 Qoj rfl rfl rfl Qog Qoh Qoi rfl rfl rfl h;have e0:(Value.agg cs).cells.toList=cs.toList:=by rfl
 rw[e0] at hcs;clear h e0;obtain⟨a1,c1,js,e1,r1,l1,s1⟩:=Qee (c:=S2.cells) (dat:=spotD) (sz:=2) ⟨⟨#[]⟩,⟨#[]⟩⟩ (by decide) (fun _=>rfl) Tryz.underlying50 Qhu (fun fuel cs x hx=>by
  obtain⟨s,t,e,hd,_⟩:=Qnx Tryz.underlying25 Tryz.underlying23 Qhu Qef rfl rfl rfl rfl hx
  exact⟨⟨s,t⟩,e,hd⟩) h0
 obtain⟨a2,c2,bs,e2,r2,l2,s2⟩:=Qee (c:=B6.cells) (dat:=barD) (sz:=6) ⟨0,0,⟨#[]⟩,⟨#[]⟩,⟨#[]⟩,⟨#[]⟩⟩ (by decide) (fun _=>rfl) Tryz.underlying51 Qhx (fun fuel cs x hx=>Qnu Tryz.underlying68 Tryz.underlying23 Tryz.underlying3 Qhx Qef cellsInt rfl rfl rfl rfl rfl rfl rfl rfl rfl rfl rfl rfl hx) h1;obtain⟨a3,c3,hs,e3,r3,l3,s3⟩:=Qee (c:=H3.cells) (dat:=holdD) (sz:=3) ⟨0,0,⟨#[]⟩⟩ (by decide) (fun _=>rfl) Tryz.underlying52 Qhy (fun fuel cs x hx=>Qnv Tryz.underlying122 Tryz.underlying23 Tryz.underlying3 Tryz.underlying3 Qhy Qef cellsInt cellsInt rfl rfl rfl rfl rfl rfl hx) h2;obtain rfl:v0=_:=by simpa using e1
 obtain rfl:v1=_:=by simpa using e2
 obtain rfl:v2=_:=by simpa using e3
 have hd:d=.agg [y0.1,y1.1,y2.1]:=hx;subst hd;have b0:Rows.uptoBulk y0.1≤1048576:=Nat.le_trans (by simp only[Rows.uptoBulk,Rows.uptoBulkAll];omega) hb;have b1:Rows.uptoBulk y1.1≤1048576:=Nat.le_trans (by simp only[Rows.uptoBulk,Rows.uptoBulkAll];omega) hb;have b2:Rows.uptoBulk y2.1≤1048576:=Nat.le_trans (by simp only[Rows.uptoBulk,Rows.uptoBulkAll];omega) hb;have k0:=Qcv b0 l1 s1;have k1:=Qcv b1 l2 s2;have k2:=Qcv b2 l3 s3;have n0:=Qeh (H:=H) spotD (fun e=>(Qhz e).1) js;have n1:=Qeh (H:=H) barD (fun e=>(Qh0 e).1) bs;have n2:=Qeh (H:=H) holdD (fun e=>(Qh1 e).1) hs;refine⟨a1,a2,a3,c1,c2,c3,js,bs,hs,by rw[←Array.toArray_toList (xs:=cs),hcs],⟨r1,r2,r3⟩,⟨fun p hp=>?_,fun p hp=>?_,fun p hp=>?_⟩,by omega,by omega,by omega,Nat.le_trans (Qcv (Nat.le_refl _) l1 s1) (by simp only[Rows.uptoBulk,Rows.uptoBulkAll];omega)⟩
 ·
  have g1:=Qei (H:=H) spotD hp;have g2:=(Qhz (H:=H) p).2;omega
 ·
  have g1:=Qei (H:=H) barD hp;have g2:=(Qh0 (H:=H) p).2;omega
 ·
  have g1:=Qei (H:=H) holdD hp;have g2:=(Qh1 (H:=H) p).2;omega
end
end Go.Proofs.YtbbkamnfjejceaaGreatDoor
namespace Go.Proofs.YtbbkamnfjejceaaGreatDoor
set_option linter.unusedVariables false
set_option linter.unusedSimpArgs false
def unitV(c:Nat):Vec:=fun i=>if i=c then 1 else 0
theorem Qma{W c:Nat}(hc:c<W)(x:Vec):dot W (unitV c) x=x c:=by
 rw[Qcj W _ x c hc (fun i _ hi=>by simp only[unitV,if_neg hi];grind)];simp only[unitV,if_pos];grind
theorem Qgo(W:Nat)(M:List Vec):∀c,c≤W→∃(L S:List Vec) (hs:List Nat),Elim W M c L S hs∧L.length+S.length=M.length
 |0,_=>⟨M,[],[],Elim.start W M,rfl⟩
 |c+1,hc=>by
  obtain⟨L,S,hs,he,hl⟩:=Qgo W M c (by omega);by_cases h:∀r,r∈ L→r c=0
  · exact⟨L,S,hs,he.skip h,hl⟩
  ·
   obtain⟨s,hs1,hs2⟩:∃s,s∈ L∧s c≠0:=by
    apply Classical.byContradiction;intro hn;exact h fun r hr=>Classical.byContradiction fun h0=>hn ⟨r,hr,h0⟩
   obtain⟨j,hj,hj2⟩:=List.getElem_of_mem hs1;refine⟨_,_,_,he.step (j:=j) (s:=s) (by rw[List.getElem?_eq_getElem hj,hj2]) hs2,?_⟩;rw[List.length_map,List.length_eraseIdx_of_lt hj,List.length_append,List.length_singleton];omega
theorem Qmb{W:Nat}{M:List Vec}(h:M.length<W):∃x:Vec,Null W M x∧∃c,c<W∧x c≠0:=by
 obtain⟨L,S,hs,he,hl⟩:=Qgo W M W (Nat.le_refl _);obtain⟨h1,h2⟩:=he.done;have hlen:=h1.len;obtain⟨c,_,c2,c3⟩:=h1.hole (by omega);obtain⟨x,x1,x2⟩:=h1.solve W (fun i=>if i=c then 1 else 0) (Nat.le_refl _);refine⟨x,(h2 x).2 x2,c,c2,?_⟩;rw[x1 c c3,if_pos rfl];decide
def sumQ:Nat→(Nat→Rat)→Rat
 |0,_=>0
 |n+1,f=>sumQ n f+f n
theorem Qgp:∀(n:Nat) (f:Nat→Rat),(∀p,p<n→f p=0)→sumQ n f=0
 |0,_,_=>rfl
 |n+1,f,h=>by rw[sumQ,Qgp n f (fun p hp=>h p (by omega)),h n (by omega)];grind
theorem Qd2:∀(n:Nat) (f:Nat→Rat) (a:Nat),a<n→(∀p,p<n→p≠a→f p=0)→sumQ n f=f a
 |n+1,f,a,ha,h=>by
  rw[sumQ];by_cases e:a=n
  · subst e
    rw[Qgp a f (fun p hp=>h p (by omega) (by omega)),Rat.zero_add]
  · rw[Qd2 n f a (by omega) (fun p hp=>h p (by omega)),h n (by omega) (by omega),Rat.add_zero]
theorem Qd3:∀(n:Nat) (f:Nat→Rat) (a b:Nat),a<n→b<n→a≠b→(∀p,p<n→p≠a→p≠b→f p=0)→sumQ n f=f a+f b
 |n+1,f,a,b,ha,hb,hab,h=>by
  rw[sumQ];by_cases e:a=n
  ·
   subst e;rw[Qd2 a f b (by omega) (fun p hp hne=>h p (by omega) (by omega) hne)];grind
  ·
   by_cases e2:b=n
   · subst e2
     rw[Qd2 b f a (by omega) (fun p hp hne=>h p (by omega) hne (by omega))]
   · rw[Qd3 n f a b (by omega) (by omega) hab (fun p hp=>h p (by omega)),h n (by omega) (by omega) (by omega),Rat.add_zero]
def Wh(P b:Nat)(q:Rat):Prop:=∃z:Int,q*(P:Rat)=(z:Rat)∧z.natAbs≤2 ^ b
theorem Wh.zero(P b:Nat):Wh P b 0:=⟨0,by rw[Rat.zero_mul];rfl,by simp⟩
theorem Wh.neg{P b:Nat}{q:Rat}(h:Wh P b q):Wh P b (-q):=by
 obtain⟨z,e,hz⟩:=h;refine⟨-z,?_,by rw[Int.natAbs_neg];exact hz⟩;rw[Rat.intCast_neg,←e];grind
theorem Wh.one{P b:Nat}(h:P≤2 ^ b):Wh P b 1:=⟨(P:Int),by rw[Rat.one_mul,Rat.intCast_natCast],by simpa using h⟩
theorem Qjh{a b:Nat}(ha:a=2 ^ b):(20+1)*(a*(2*((20+1)*a)) ^ 20)≤2 ^ (5+(b+(6+b)*20)):=by
 have h0:2 ^ 6=64:=by decide
 have h1:2*((20+1)*a)≤2 ^ (6+b):=by rw[Nat.pow_add,ha];omega
 have h2:(2*((20+1)*a)) ^ 20≤(2 ^ (6+b)) ^ 20:=Nat.pow_le_pow_left h1 20;rw[←Nat.pow_mul] at h2;rw[Nat.pow_add 2 5,Nat.pow_add 2 b,←ha];exact Nat.mul_le_mul (by decide) (Nat.mul_le_mul_left _ h2)
abbrev kE(b:Nat):Nat:=21*b+126
abbrev kC(b:Nat):Nat:=22*b+126
abbrev kW(b:Nat):Nat:=41*kC b+20
theorem Qe8{b W P:Nat}{M:List Vec}(hP:0<P)(hPb:P≤2 ^ b)(hM:∀r,r∈ M→∀j,Wh P b (r j))(hz:∀r,r∈ M→∀i,W≤i→r i=0)(hl:M.length≤20∨W≤20):
 Going (kE b) (MJ W 20 (kC b) M)∧MJ W 20 (kC b) M 0 M [] []∧∀L S hs,MJ W 20 (kC b) M W L S hs→(Ech 0 W S hs∧∀x,Null W M x↔Null W S x)∧clnFits (kW b) S hs∧∀v,v∈ cln S hs→∀i,Fits (v i) (kC b):=by
 have hD:∀j:Nat,0<(fun _=>P) j∧(fun _=>P) j≤2 ^ b:=fun _=>⟨hP,hPb⟩
 have h1:=Qjh (a:=2 ^ b) (b:=b) rfl;have ha:0<2 ^ b:=Nat.pow_pos (by decide);have hK:(20+1)*(2 ^ b*(2*((20+1)*2 ^ b)) ^ 20)<2 ^ kE b:=Nat.lt_of_le_of_lt h1 (Nat.pow_lt_pow_right (by decide) (by simp only[kE];omega));have hK2:(20+1)*(2 ^ b*(2*((20+1)*2 ^ b)) ^ 20)*2 ^ b<2 ^ kC b:=by
  refine Nat.lt_of_le_of_lt (Nat.mul_le_mul_right _ h1) ?_;rw[←Nat.pow_add];exact Nat.pow_lt_pow_right (by decide) (by simp only[kC];omega)
 refine⟨MJ.going (D:=fun _=>P) ha hD hM hK (by simp only[kE];omega) hK2 (by simp only[kC];omega),MJ.start W 20 _ M hz hl,fun L S hs h=>⟨h.1.done,?_⟩⟩;exact MJ.clean (D:=fun _=>P) ha hD hM hK2 (by simp only[kC];omega) (by simp only[kW,kC];omega) h
theorem Going.mono{K K':Nat}{I:Nat→List Vec→List Vec→List Nat→Prop}(h:Going K I)(hK:K≤K'):Going K' I:=⟨fun hi r hr i=>(h.fit hi r hr i).mono hK,h.skip,h.step⟩
open Go.RowKit
theorem FrameFault.few{js:List S2}{bs:List B6}{hs:List H3}{x:Int}(h:FrameFault js bs hs 0 x):¬Many js.length bs.length hs.length∧(∀(i:Nat) (b:B6),bs[i]?=some b→BarCode js b 0)∧(∀i y,hs[i]?=some y→holdAt js.length hs i y=0)∧x=0:=by
 rcases h with ⟨_,h,_⟩|⟨_,k,b,_,_,_,h,_⟩|⟨h1,h2,h⟩
 · cases h
 · exact absurd rfl h
 ·
  rcases h with ⟨_,_,_,_,_,h,_⟩|⟨h3,_,h4⟩
  · exact absurd rfl h
  · exact⟨h1,h2,h3,h4⟩
theorem Qjb{js:List S2}{bs:List B6}{hs:List H3}(hz:FrSized js bs hs){b:B6}(h:BarCode js b 0):∃p:Nat × Nat × Rat × Rat,BarV 1048576 js b p∧p.1<js.length∧p.2.1<js.length∧¬(p.2.2.1=0∧p.2.2.2=0):=by
 rcases h with ⟨_,h⟩|⟨h1,h2,s,t,hs,ht,px,py,qx,qy,vc,vl,vm,q1,q2,q3,q4,_,_,_,hc⟩
 · cases h
 have hne:¬(px=qx∧py=qy):=fun e=>by rw[if_pos e] at hc;cases hc
 have z1:=hz.j s (List.mem_of_getElem? hs);have z2:=hz.j t (List.mem_of_getElem? ht);have g1:=h1.1;have g2:=h2.1;have g3:=h1.2;have g4:=h2.2;refine⟨(b.a.toNat,b.b.toNat,qx - px,qy - py),⟨by simp only;omega,by simp only;omega,fun e=>?_,s,t,px,py,qx,qy,hs,ht,z1.1,z1.2,z2.1,z2.2,q1,q2,q3,q4,rfl,rfl⟩,by simp only;omega,by simp only;omega,fun ⟨e1,e2⟩=>hne ⟨?_,?_⟩⟩
 ·
  simp only at e;rw[e,ht] at hs;cases hs;exact hne ⟨q1.inj q3,q2.inj q4⟩
 · simp only at e1
   grind
 · simp only at e2
   grind
theorem Qjc{n:Nat}{hs:List H3}{i:Nat}{h:H3}(k:holdAt n hs i h=0):∃r:Nat,HoldV n h r:=by
 unfold holdAt holdC at k;have hj:0≤h.j∧h.j<n:=by
  apply Classical.byContradiction;intro hn;rw[if_neg hn] at k;cases k
 obtain⟨g1,g2⟩:=hj;exact⟨_,h.j.toNat,by omega,by omega,rfl⟩
theorem Qe5{js:List S2}{bs:List B6}{hs:List H3}(hz:FrSized js bs hs){x:Int}(h:FrameFault js bs hs 0 x):∃(vb:List (Nat × Nat × Rat × Rat)) (vh:List Nat),FrV 1048576 js bs hs vb vh∧∀p,p∈ vb→p.1<js.length∧p.2.1<js.length∧¬(p.2.2.1=0∧p.2.2.2=0):=by
 obtain⟨hm,hb,hh,_⟩:=h.few;have exb:∀i:Nat,∃p:Nat × Nat × Rat × Rat,∀b,bs[i]?=some b→BarV 1048576 js b p∧p.1<js.length∧p.2.1<js.length∧¬(p.2.2.1=0∧p.2.2.2=0):=fun i=>by
  rcases hi:bs[i]? with _|b
  · exact⟨(0,0,0,0),fun b hb=>by cases hb⟩
  · obtain⟨p,hp⟩:=Qjb hz (hb i b hi)
    exact⟨p,fun b' e=>by cases e;exact hp⟩
 have exh:∀i:Nat,∃r:Nat,∀y,hs[i]?=some y→HoldV js.length y r:=fun i=>by
  rcases hi:hs[i]? with _|y
  · exact⟨0,fun b hb=>by cases hb⟩
  · obtain⟨r,hr⟩:=Qjc (hh i y hi)
    exact⟨r,fun y' e=>by cases e;exact hr⟩
 obtain⟨f,hf⟩:=Classical.axiomOfChoice exb;obtain⟨g,hg⟩:=Classical.axiomOfChoice exh;have hat:∀{β:Type} (F:Nat→β) (L i:Nat) (p:β),((List.range L).map F)[i]?=some p→i<L∧p=F i:=fun F L i p hp=>by
  have hl:=(List.getElem?_eq_some_iff.1 hp).1;rw[List.length_map,List.length_range] at hl;rw[List.getElem?_map,List.getElem?_range hl] at hp;exact⟨hl,(Option.some.inj hp).symm⟩
 refine⟨(List.range bs.length).map f,(List.range hs.length).map g,⟨?_,?_,?_,by simp,by simp,fun i b p hb hp=>?_,fun i y r hy hr=>?_,Nat.le_refl _⟩,fun p hp=>?_⟩
 · exact Nat.le_of_not_lt fun h=>hm (.inr (.inl h))
 · exact Nat.le_of_not_lt fun h=>hm (.inr (.inr (.inl h)))
 · exact Nat.le_of_not_lt fun h=>hm (.inr (.inr (.inr h)))
 · obtain⟨_,rfl⟩:=hat f _ _ _ hp
   exact(hf i b hb).1
 · obtain⟨_,rfl⟩:=hat g _ _ _ hr
   exact hg i y hy
 ·
  obtain⟨i,hi,rfl⟩:=List.mem_map.1 hp;have hil:=List.mem_range.1 hi;exact(hf i bs[i] (List.getElem?_eq_getElem hil)).2
theorem BarV.same{n m:Nat}{js:List S2}{b:B6}{p q:Nat × Nat × Rat × Rat}(h:BarV n js b p)(k:BarV m js b q):p=q:=by
 obtain⟨p1,p2,p3,p4⟩:=p;obtain⟨q1,q2,q3,q4⟩:=q;obtain⟨s,t,x1,y1,x2,y2,e1,e2,_,_,_,_,u1,u2,u3,u4,e3,e4⟩:=h.ex;obtain⟨s',t',x1',y1',x2',y2',f1,f2,_,_,_,_,v1,v2,v3,v4,f3,f4⟩:=k.ex;have ha:=h.a;have hb:=h.b;have ka:=k.a;have kb:=k.b;simp only at*;obtain rfl:p1=q1:=by omega
 obtain rfl:p2=q2:=by omega
 rw[e1] at f1;rw[e2] at f2;cases f1;cases f2;obtain rfl:=u1.inj v1;obtain rfl:=u2.inj v2;obtain rfl:=u3.inj v3;obtain rfl:=u4.inj v4;rw[e3,e4,f3,f4]
theorem HoldV.same{n:Nat}{h:H3}{r s:Nat}(k:HoldV n h r)(l:HoldV n h s):r=s:=by
 obtain⟨j,h1,_,h3⟩:=k.ex;obtain⟨j',k1,_,k3⟩:=l.ex;obtain rfl:j=j':=by omega
 rw[h3,k3]
theorem Qda{α:Type}{l m:List α}(h:l.length=m.length)(he:∀(i:Nat) (a b:α),l[i]?=some a→m[i]?=some b→a=b):l=m:=by
 apply List.ext_getElem h;intro i h1 h2;exact he i _ _ (List.getElem?_eq_getElem h1) (List.getElem?_eq_getElem h2)
theorem FrV.same{n m:Nat}{js:List S2}{bs:List B6}{hs:List H3}{vb vb':List (Nat × Nat × Rat × Rat)}{vh vh':List Nat}(h:FrV n js bs hs vb vh)(k:FrV m js bs hs vb' vh'):balRows js.length vb' bs.length vh'=balRows js.length vb bs.length vh:=by
 have e1:vb'=vb:=Qda (by rw[h.lb,k.lb]) fun i a b ha hb=>by
  have hi:i<bs.length:=by have:=(List.getElem?_eq_some_iff.1 ha).1;have:=k.lb;omega
  exact(k.vb i _ a (List.getElem?_eq_getElem hi) ha).same (h.vb i _ b (List.getElem?_eq_getElem hi) hb)
 have e2:vh'=vh:=Qda (by rw[h.lh,k.lh]) fun i a b ha hb=>by
  have hi:i<hs.length:=by have:=(List.getElem?_eq_some_iff.1 ha).1;have:=k.lh;omega
  exact(k.vh i _ a (List.getElem?_eq_getElem hi) ha).same (h.vh i _ b (List.getElem?_eq_getElem hi) hb)
 rw[e1,e2]
theorem Qjd{W:Nat}{M L S:List Vec}{hh:List Nat}(h:Elim W M W L S hh)(hS:S.length=W)(x:Vec)(hx:Null W M x):∀c,c<W→x c=0:=by
 obtain⟨h1,h2⟩:=h.done;have hl:=h1.len;have hin:∀c,c<W→c∈ hh:=fun c hc=>by
  have:=h1.all (by omega) c (hh[c]'(by omega)) (List.getElem?_eq_getElem _);rw[Nat.zero_add] at this;rw[←this];exact List.getElem_mem _
 intro c hc;exact h1.uniq W x (Nat.le_refl _) ((h2 x).1 hx) (fun d hd hn=>absurd (hin d hd) hn) c (hin c hc)
set_option maxRecDepth 100000 in
set_option maxHeartbeats 8000000 in
theorem Qje(a1 a2 a3:Option Addr)(c1 c2 c3:Nat)(js:List S2)(bs:List B6)(hs:List H3)(c at_:Int)(w:World)(hg:Glob w)(hf:FrRow w a1 a2 a3 c1 c2 c3 js bs hs)(hz:FrSized js bs hs)(hff:FrameFault js bs hs c at_)(hc:c≠0):
 Calls Tryz.prog 29 #[.agg #[.slice a1 js.length c1,.slice a2 bs.length c2,.slice a3 hs.length c3]] w fun e w'=>e=.returned (.tuple #[.int .i64 0,.int .i64 0,.int .i64 0,.agg #[.int .i64 c,.int .i64 at_]])∧Below w.heap.size w w':=by
 have HG:=Hi hg;have HF:=Hi hf;have HZ:=Hi hz;have HFF:=Hi hff;clear hg hf hz hff;go_enter Tryz.func29,Tryz.ntmps29;obtain⟨W,hW⟩:∃W,(w.alloc (.cells #[.slice a1 js.length c1,.slice a2 bs.length c2,.slice a3 hs.length c3] 54)).alloc (.cells #[.int .i64 0,.int .i64 0] 57)=W:=⟨_,rfl⟩;have HB0:Hid (Below w.heap.size w W):=Hi (by rw[←hW];exact Below.new2 w _ _);have HS1:Hid (SB W (w.heap.size+1) 57 #[.int .i64 0,.int .i64 0]):=Hi (by rw[←hW];exact SB.new2 w _ _ _ _);have HW:=Hi hW;clear hW;go_wp2_with fail;rw[HW.out];go_fit (Qeg a1 a2 a3 c1 c2 c3 js bs hs W (HG.out.below HB0.out) (HF.out.below HB0.out) HZ.out);rintro e w1 ⟨c',at',rfl,hff,hb1⟩;obtain⟨e1,e2⟩:=HFF.out.inj hff;obtain rfl:=e1;obtain rfl:=e2;have hs1:=HS1.out.below hb1 HS1.out.lt;obtain⟨V,hV⟩:∃V,(w1.setCell ⟨w.heap.size+1,0,none⟩ (.int .i64 c)).setCell ⟨w.heap.size+1,1,none⟩ (.int .i64 at_)=V:=⟨_,rfl⟩
 have HX1:Hid (SB V (w.heap.size+1) 57 #[.int .i64 c,.int .i64 at_]):=Hi (by rw[←hV];exact(hs1.set 0 _).set 1 _);have HBV:Hid (Below w.heap.size w V):=Hi (by rw[←hV];exact((HB0.out.trans (hb1.mono HB0.out.size)).setCell (Nat.le_succ _) _).setCell (Nat.le_succ _) _);have z0:w1.cell? ⟨w.heap.size+1,0,none⟩=some (.int .i64 0):=hs1.cell 0;have z1:w1.cell? ⟨w.heap.size+1,1,none⟩=some (.int .i64 0):=hs1.cell 1;have f0:=hs1.free 0;have f1:=hs1.free 1;have k0:V.cell? ⟨w.heap.size+1,0,none⟩=some (.int .i64 c):=HX1.out.cell 0;have k1:V.cell? ⟨w.heap.size+1,1,none⟩=some (.int .i64 at_):=HX1.out.cell 1;have g0:=HX1.out.free 0;have g1:=HX1.out.free 1;have HVV:=Hi hV;rw[←hV] at k0 k1 g0 g1;have e0:(c != 0)=true:=by simpa using hc
 clear hb1 hs1 hV hff hc HS1;go_wp2;go_region
 all_goals
  go_wp2;rw[HVV.out];refine bodyPost_ret (Qew rfl _ _ (w.heap.size+1) 57 #[.int .i64 c,.int .i64 at_] (0,0) _ rfl ((HX1.out.set 0 _).set 1 _) Tryz.underlying57 rfl Tryz.faultInfo) rfl ?_;exact⟨rfl,((HBV.out.setCell (p:=⟨w.heap.size+1,0,none⟩) (Nat.le_succ _) _).setCell (p:=⟨w.heap.size+1,1,none⟩) (Nat.le_succ _) _).drew⟩
theorem Qe6{P:Nat→Prop}(n:Nat)(h:P n):∃k,P k∧∀m,m<k→¬P m:=by
 induction n using Nat.strongRecOn with
 |ind n ih=>
  by_cases hm:∃m,m<n∧P m
  · obtain⟨m,h1,h2⟩:=hm
    exact ih m h1 h2
  · exact⟨n,h,fun m h1 h2=>hm ⟨m,h1,h2⟩⟩
theorem BarCode.ex(js:List S2)(b:B6):∃c,BarCode js b c:=by
 by_cases h:IsJ js.length b.a∧IsJ js.length b.b
 ·
  obtain⟨⟨h1,h2⟩,h3,h4⟩:=h;obtain⟨px,q1⟩:=QOf.ex (js[b.a.toNat]'(by omega)).x.data.toList;obtain⟨py,q2⟩:=QOf.ex (js[b.a.toNat]'(by omega)).y.data.toList;obtain⟨qx,q3⟩:=QOf.ex (js[b.b.toNat]'(by omega)).x.data.toList;obtain⟨qy,q4⟩:=QOf.ex (js[b.b.toNat]'(by omega)).y.data.toList;obtain⟨vc,q5⟩:=QOf.ex b.c.data.toList;obtain⟨vl,q6⟩:=QOf.ex b.l.data.toList;obtain⟨vm,q7⟩:=QOf.ex b.m.data.toList;exact⟨_,.inr ⟨⟨h1,h2⟩,⟨h3,h4⟩,_,_,List.getElem?_eq_getElem _,List.getElem?_eq_getElem _,px,py,qx,qy,vc,vl,vm,q1,q2,q3,q4,q5,q6,q7,rfl⟩⟩
 · exact⟨4,.inl ⟨h,rfl⟩⟩
theorem FrameFault.ex(js:List S2)(bs:List B6)(hs:List H3):∃c x,FrameFault js bs hs c x:=by
 by_cases hm:Many js.length bs.length hs.length
 · exact⟨2,0,.inl ⟨hm,rfl,rfl⟩⟩
 by_cases hb:∃(k:Nat) (b:B6),bs[k]?=some b∧¬BarCode js b 0
 ·
  obtain⟨k0,hk0⟩:=hb;obtain⟨k,⟨b,h1,h2⟩,h3⟩:=Qe6 (P:=fun k=>∃b,bs[k]?=some b∧¬BarCode js b 0) k0 hk0;obtain⟨c,hc⟩:=BarCode.ex js b;refine⟨c,k,.inr (.inl ⟨hm,k,b,h1,fun i x hi hx=>Classical.byContradiction fun hn=>h3 i hi ⟨x,hx,hn⟩,hc,fun e=>h2 (e ▸ hc),rfl⟩)⟩
 ·
  have hb':∀(i:Nat) (x:B6),bs[i]?=some x→BarCode js x 0:=fun i x hx=>Classical.byContradiction fun hn=>hb ⟨i,x,hx,hn⟩
  by_cases hh:∃(k:Nat) (y:H3),hs[k]?=some y∧holdAt js.length hs k y≠0
  ·
   obtain⟨k0,hk0⟩:=hh;obtain⟨k,⟨y,h1,h2⟩,h3⟩:=Qe6 (P:=fun k=>∃y,hs[k]?=some y∧holdAt js.length hs k y≠0) k0 hk0;exact⟨_,_,.inr (.inr ⟨hm,hb',.inl ⟨k,y,h1,fun i x hi hx=>Classical.byContradiction fun hn=>h3 i hi ⟨x,hx,hn⟩,rfl,h2,rfl⟩⟩)⟩
  · exact⟨0,0,.inr (.inr ⟨hm,hb',.inr ⟨fun i x hx=>Classical.byContradiction fun hn=>hh ⟨i,x,hx,hn⟩,rfl,rfl⟩⟩)⟩
theorem Qjf(a1 a2 a3:Option Addr)(c1 c2 c3:Nat)(js:List S2)(bs:List B6)(hs:List H3)(w:World)(hg:Glob w)(hf:FrRow w a1 a2 a3 c1 c2 c3 js bs hs)(hz:FrSized js bs hs):
 Calls Tryz.prog 29 #[.agg #[.slice a1 js.length c1,.slice a2 bs.length c2,.slice a3 hs.length c3]] w fun e w'=>∃r m y c at_:Int,e=.returned (.tuple #[.int .i64 r,.int .i64 m,.int .i64 y,.agg #[.int .i64 c,.int .i64 at_]])∧FrameFault js bs hs c at_∧
  (c=0→m=0→∀(vb:List (Nat × Nat × Rat × Rat)) (vh:List Nat),FrV 1048576 js bs hs vb vh→∀x,Null (bs.length+hs.length) (balRows js.length vb bs.length vh) x→∀k,k<bs.length+hs.length→x k=0)∧Below w.heap.size w w':=by
 obtain⟨c,at_,hff⟩:=FrameFault.ex js bs hs;by_cases hc:c=0
 ·
  subst hc;obtain⟨vb,vh,hv,_⟩:=Qe5 hz hff;obtain rfl:=hff.few.2.2.2;obtain⟨hgo,hst⟩:=Qja hv;refine(Qez a1 a2 a3 c1 c2 c3 1048576 (336*1048576+252) js bs hs vb vh w hg hf hz hff hv (by decide) (by decide) _ hgo hst).mono ?_;rintro e w' ⟨⟨L,S,hh,rfl,hl,hi⟩,hb⟩;refine⟨_,_,_,0,0,rfl,hff,fun _ hm vb' vh' hv' x hx=>?_,hb⟩;have hi':Elim (bs.length+hs.length) (balRows js.length vb bs.length vh) (bs.length+hs.length) L S hh:=hi.1;have e:=hv.same hv';rw[e] at hx;exact Qjd hi' (by omega) x hx
 ·
  refine(Qje a1 a2 a3 c1 c2 c3 js bs hs c at_ w hg hf hz hff hc).mono ?_;rintro e w' ⟨rfl,hb⟩;exact⟨0,0,0,c,at_,rfl,hff,fun h=>absurd h hc,hb⟩
end Go.Proofs.YtbbkamnfjejceaaGreatDoor
