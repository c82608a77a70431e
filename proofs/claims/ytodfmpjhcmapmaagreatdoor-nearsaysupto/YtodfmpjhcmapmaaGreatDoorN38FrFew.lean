/- What is known of a frame without a fault: its bars as numbers. -/
import Derived.Test.YtodfmpjhcmapmaaGreatDoorN37BalA
namespace Go.Proofs.YtodfmpjhcmapmaaGreatDoor
open Go.RowKit
set_option linter.unusedVariables false
set_option linter.unusedSimpArgs false
structure BarV (n:Nat) (js:List S2) (b:B6) (p:Nat × Nat × Rat × Rat):Prop where
 a:b.a=(p.1:Nat)
 b:b.b=(p.2.1:Nat)
 ne:p.1≠p.2.1
 ex:∃(s t:S2) (x1 y1 x2 y2:Rat),js[p.1]?=some s∧js[p.2.1]?=some t∧s.x.size≤n∧s.y.size≤n∧t.x.size≤n∧t.y.size≤n∧QOf s.x.data.toList x1∧QOf s.y.data.toList y1∧QOf t.x.data.toList x2∧QOf t.y.data.toList y2∧p.2.2.1=x2 - x1∧p.2.2.2=y2 - y1
def textD{H:Type}(s:ByteArray):DataW H:=.lit (.string s.data.toList)
section
variable {H:Type} {enc:TypeId × Value→H} {P:Program} {w:World} {base:Nat} {spare:Nat→Bool} {held:Bool} {fuel:Nat} {cs:List Value} {x:DataW H × List MemPlace} {tE tS tQ tI tI':TypeId} {f0 f1 f2 f3 f4 f5:Field}
theorem Qdt{α:Type}{c:α→List Value}{dat:α→DataW H}{sz:Nat}{t:TypeId}(dflt:α)(hsz:0<sz)(hc:∀e,(c e).length=sz)(ut:P.underlying t=some (.slice tE))(cE:P.cellsOf tE=sz)
 (each:∀(fuel:Nat) (cs:List Value) (x:DataW H × List MemPlace),DataW.trod enc P w base spare held fuel tE cs=some x→∃e,cs=c e∧x.1=dat e)
 (h:DataW.trod enc P w base spare held fuel t cs=some x):
 ∃(a:Option Addr) (cap:Nat) (es:List α),cs= [.slice a es.length cap]∧ARow c w a cap es∧(∀l r,x.1=.slice l r→l=es.map dat)∧((es= []∧x.1=.nil)∨∃l r,x.1=.slice l r):=by
 rcases Deep.open_slice ut h with ⟨rfl,rfl⟩|⟨a,len,cap,m,n,D,Pl,rfl,hb,hlc,hcm,hm,rfl,hD⟩
 · exact⟨none,0,[],rfl,⟨by simp,⟨fun j u hj=>by simp at hj⟩⟩,fun l r e=>by simp at e,.inl ⟨rfl,rfl⟩⟩
 have hlm:len≤m:=by rw[hm];split<;>omega
 have eachI:∀i,∃f:α,i<len→w.cells? base (a.add (i*sz)) sz=some (c f)∧D i=dat f:=by
  intro i;by_cases hi:i<len
  ·
   obtain⟨cs',h1,h2⟩:=hD i (by omega);obtain⟨f,rfl,hd⟩:=each _ _ _ h2;rw[cE] at h1;exact⟨f,fun _=>⟨h1,hd⟩⟩
  · exact⟨dflt,fun h=>absurd h hi⟩
 obtain⟨F,hF⟩:=Classical.axiomOfChoice eachI;refine⟨some a,cap,(List.range len).map F,by simp,⟨by simpa using hlc,⟨?_⟩⟩,?_,.inr ⟨_,_,rfl⟩⟩
 ·
  intro j u hj;have hjl:=(List.getElem?_eq_some_iff.1 hj).1;rw[Qcf hc] at hjl;simp only[List.length_map,List.length_range] at hjl;have hil:j / sz<len:=(Nat.div_lt_iff_lt_mul hsz).2 hjl;have hkl:j % sz<sz:=Nat.mod_lt _ hsz;obtain⟨u',hu'⟩:∃u',(c (F (j / sz)))[j % sz]?=some u':=⟨_,List.getElem?_eq_getElem (by rw[hc];exact hkl)⟩;have h1:((List.range len).map F)[j / sz]?=some (F (j / sz)):=by simp[hil]
  have h2:=Qdd hc _ _ _ _ _ h1 hu';rw[Nat.div_add_mod' j sz,hj] at h2;obtain rfl:=Option.some.inj h2;obtain⟨hcl,_⟩:=hF _ hil;obtain⟨_,_,hcell⟩:=World.cells?_some hcl;obtain⟨b,off,sp⟩:=a;have c0:=hcell (j % sz) (by omega);have z:=(World.cells?_some (hF 0 (Nat.lt_of_le_of_lt (Nat.zero_le _) hil)).1).2.2 0 hsz;have hsp:sp=none:=by
   cases sp with
   |none=>rfl
   |some v=>
    exfalso
    obtain⟨z0,hz0⟩:∃z0,(c (F 0))[0]?=some z0:=⟨_,List.getElem?_eq_getElem (by rw[hc];exact hsz)⟩;rw[hz0] at z;simp only[Nat.zero_mul,Addr.add,if_true,World.cell?] at z
    split at z<;>simp at z
  subst hsp;have ea:∀j k,(Addr.add ⟨b,off,none⟩ j).add k=⟨b,off+j+k,none⟩:=by
   intro j k;unfold Addr.add;by_cases hj:j=0<;>by_cases hk:k=0<;>simp[hj,hk]
  rw[ea,hu',Nat.add_assoc,Nat.div_add_mod'] at c0;exact⟨b,off,rfl,World.block_lt_of_cell? _ _ c0,c0⟩
 ·
  intro l r e;have e1:(List.range len).map D=l:=by simpa using (DataW.slice.inj e).1
  rw[←e1,List.map_map];refine List.map_congr_left fun i hi=>?_
  exact(hF i (by simpa using hi)).2
end
def spotD{H:Type}(s:S2):DataW H:=.agg [textD s.x,textD s.y]
def barD{H:Type}(b:B6):DataW H:=.agg [.lit (.int .i64 b.a),.lit (.int .i64 b.b),textD b.c,textD b.e,textD b.l,textD b.m]
def holdD{H:Type}(h:H3):DataW H:=.agg [.lit (.int .i64 h.j),.lit (.int .i64 h.w),textD h.q]
section
variable {H:Type} {enc:TypeId × Value→H} {P:Program} {w:World} {base:Nat} {spare:Nat→Bool} {held:Bool} {fuel:Nat} {cs:List Value} {x:DataW H × List MemPlace} {tE tS tQ tI tI':TypeId} {f0 f1 f2 f3 f4 f5:Field}
theorem Qig(uB:P.underlying tE=some (.struct #[f0,f1,f2,f3,f4,f5]))(uQ:P.underlying tQ=some .string)(uI:P.underlying tI=some (.int .i64))(cB:P.cellsOf tE=6)(cQ:P.cellsOf tQ=1)(cI:P.cellsOf tI=1)
 (t0:f0.type=tI) (t1:f1.type=tI) (t2:f2.type=tQ) (t3:f3.type=tQ) (t4:f4.type=tQ) (t5:f5.type=tQ) (o0:f0.offset=0) (o1:f1.offset=1) (o2:f2.offset=2) (o3:f3.offset=3) (o4:f4.offset=4) (o5:f5.offset=5)
 (h:DataW.trod enc P w base spare held fuel tE cs=some x):∃b:B6,cs=b.cells∧x.1=barD b:=by
 obtain⟨xs,n,rfl,rfl,hl,hxl,hf⟩:=DataW.trod_struct uB h;rw[cB] at hl;clear h;have h0:=hf 0 f0 rfl;have h1:=hf 1 f1 rfl;have h2:=hf 2 f2 rfl;have h3:=hf 3 f3 rfl;have h4:=hf 4 f4 rfl;have h5:=hf 5 f5 rfl;rw[t0,o0,cI] at h0;rw[t1,o1,cI] at h1;rw[t2,o2,cQ] at h2;rw[t3,o3,cQ] at h3;rw[t4,o4,cQ] at h4;rw[t5,o5,cQ] at h5;clear hf
 match cs,hl,xs,hxl with
 | [v0,v1,v2,v3,v4,v5],_,[y0,y1,y2,y3,y4,y5],_=>
   simp only[List.drop_zero,List.drop_succ_cons,List.take_succ_cons,List.take_zero,List.getElem?_cons_zero,List.getElem?_cons_succ] at h0 h1 h2 h3 h4 h5;obtain⟨a,e0,rfl,_⟩:=DataW.trod_int uI h0;obtain⟨b,e1,rfl,_⟩:=DataW.trod_int uI h1;obtain⟨c,e2,rfl,_⟩:=DataW.trod_string uQ h2;obtain⟨e,e3,rfl,_⟩:=DataW.trod_string uQ h3;obtain⟨l,e4,rfl,_⟩:=DataW.trod_string uQ h4;obtain⟨m,e5,rfl,_⟩:=DataW.trod_string uQ h5;obtain rfl:v0=_:=by simpa using e0
   obtain rfl:v1=_:=by simpa using e1
   obtain rfl:v2=_:=by simpa using e2
   obtain rfl:v3=_:=by simpa using e3
   obtain rfl:v4=_:=by simpa using e4
   obtain rfl:v5=_:=by simpa using e5
   exact⟨⟨a,b,c,e,l,m⟩,rfl,rfl⟩
theorem Qih(uB:P.underlying tE=some (.struct #[f0,f1,f2]))(uQ:P.underlying tQ=some .string)(uI:P.underlying tI=some (.int .i64))(uI':P.underlying tI'=some (.int .i64))(cB:P.cellsOf tE=3)(cQ:P.cellsOf tQ=1)(cI:P.cellsOf tI=1)(cI':P.cellsOf tI'=1)
 (t0:f0.type=tI) (t1:f1.type=tI') (t2:f2.type=tQ) (o0:f0.offset=0) (o1:f1.offset=1) (o2:f2.offset=2)
 (h:DataW.trod enc P w base spare held fuel tE cs=some x):∃b:H3,cs=b.cells∧x.1=holdD b:=by
 obtain⟨xs,n,rfl,rfl,hl,hxl,hf⟩:=DataW.trod_struct uB h;rw[cB] at hl;clear h;have h0:=hf 0 f0 rfl;have h1:=hf 1 f1 rfl;have h2:=hf 2 f2 rfl;rw[t0,o0,cI] at h0;rw[t1,o1,cI'] at h1;rw[t2,o2,cQ] at h2;clear hf
 match cs,hl,xs,hxl with
 | [v0,v1,v2],_,[y0,y1,y2],_=>
   simp only[List.drop_zero,List.drop_succ_cons,List.take_succ_cons,List.take_zero,List.getElem?_cons_zero,List.getElem?_cons_succ] at h0 h1 h2;obtain⟨a,e0,rfl,_⟩:=DataW.trod_int uI h0;obtain⟨b,e1,rfl,_⟩:=DataW.trod_int uI' h1;obtain⟨c,e2,rfl,_⟩:=DataW.trod_string uQ h2;obtain rfl:v0=_:=by simpa using e0
   obtain rfl:v1=_:=by simpa using e1
   obtain rfl:v2=_:=by simpa using e2
   exact⟨⟨a,b,c⟩,rfl,rfl⟩
theorem Qqk(u:P.underlying tE=some (.struct #[f0,f1,f2]))(cB:P.cellsOf tE=3){t0 t1 t2:TypeId}(e0:f0.type=t0)(e1:f1.type=t1)(e2:f2.type=t2)(k0:P.cellsOf t0=1)(k1:P.cellsOf t1=1)(k2:P.cellsOf t2=1)(o0:f0.offset=0)(o1:f1.offset=1)(o2:f2.offset=2)
 (h:DataW.trod enc P w base spare held fuel tE cs=some x):∃n v0 v1 v2 y0 y1 y2,cs= [v0,v1,v2]∧x.1=.agg [y0.1,y1.1,y2.1]∧DataW.trod enc P w base spare held n t0 [v0]=some y0∧DataW.trod enc P w base spare held n t1 [v1]=some y1∧DataW.trod enc P w base spare held n t2 [v2]=some y2:=by
 obtain⟨xs,n,rfl,rfl,hl,hxl,hf⟩:=DataW.trod_struct u h;rw[cB] at hl;clear h;have h0:=hf 0 f0 rfl;have h1:=hf 1 f1 rfl;have h2:=hf 2 f2 rfl;rw[e0,o0,k0] at h0;rw[e1,o1,k1] at h1;rw[e2,o2,k2] at h2;clear hf
 match cs,hl,xs,hxl with
 | [v0,v1,v2],_,[y0,y1,y2],_=>
   simp only[List.drop_zero,List.drop_succ_cons,List.take_succ_cons,List.take_zero,List.getElem?_cons_zero,List.getElem?_cons_succ] at h0 h1 h2;exact⟨n,v0,v1,v2,y0,y1,y2,rfl,rfl,h0,h1,h2⟩
end
end Go.Proofs.YtodfmpjhcmapmaaGreatDoor
namespace Go.Proofs.YtodfmpjhcmapmaaGreatDoor
open Go.ChangeShapes Go.WideShapes Go.ChangeAt Go.RowKit
set_option linter.unusedVariables false
set_option linter.unusedSimpArgs false
theorem Qfd:Tryz.prog.cellsOf 39=6:=by kernel_rfl
theorem Qfe:Tryz.prog.cellsOf 68=3:=by kernel_rfl
theorem Qrh:Tryz.prog.cellsOf 22=1:=by kernel_rfl
theorem Qri:Tryz.prog.cellsOf 23=1:=by kernel_rfl
theorem Qrj:Tryz.prog.cellsOf 24=1:=by kernel_rfl
theorem Qrk:Tryz.prog.cellsOf 26=3:=by kernel_rfl
theorem Qrl:Tryz.prog.readableRec 26=true:=by kernel_rfl
theorem Qrm:26<Tryz.prog.types.size:=by refine of_decide_eq_true ?_;kernel_rfl
section
variable {H:Type}
theorem Qdw{α:Type}(dat:α→DataW H)(hd:∀e,1≤Rows.uptoBulk (dat e))(es:List α):es.length≤Rows.uptoBulkAll (es.map dat):=by
 induction es with
 |nil=>simp
 |cons e l ih=>
  have:=hd e;simp only[List.map_cons,Rows.uptoBulkAll,List.length_cons];omega
theorem Qcx{α:Type}{dat:α→DataW H}{es:List α}{d:DataW H}{N:Nat}(hb:Rows.uptoBulk d≤N)(hl:∀l r,d=.slice l r→l=es.map dat)(hs:(es= []∧d=.nil)∨∃l r,d=.slice l r):Rows.uptoBulkAll (es.map dat)≤N:=by
 rcases hs with ⟨rfl,_⟩|⟨l,r,rfl⟩
 · simp[Rows.uptoBulkAll]
 · rw[←hl l r rfl]
   exact Nat.le_trans (Qrf l r) hb
theorem Qrn(s:ByteArray):s.size≤Rows.uptoBulk (textD (H:=H) s):=by
 simp[textD,Rows.uptoBulk]
theorem Qi4(s:S2):1≤Rows.uptoBulk (spotD (H:=H) s)∧s.x.size+s.y.size≤Rows.uptoBulk (spotD (H:=H) s):=by
 simp[spotD,textD,Rows.uptoBulk,Rows.uptoBulkAll];omega
theorem Qi5(b:B6):1≤Rows.uptoBulk (barD (H:=H) b)∧b.c.size+b.e.size+b.l.size+b.m.size≤Rows.uptoBulk (barD (H:=H) b):=by
 simp[barD,textD,Rows.uptoBulk,Rows.uptoBulkAll];omega
theorem Qi6(h:H3):1≤Rows.uptoBulk (holdD (H:=H) h)∧h.q.size≤Rows.uptoBulk (holdD (H:=H) h):=by
 simp[holdD,textD,Rows.uptoBulk,Rows.uptoBulkAll];omega
theorem Qdx{α:Type}(dat:α→DataW H){es:List α}{e:α}(he:e∈ es):Rows.uptoBulk (dat e)≤Rows.uptoBulkAll (es.map dat):=Qfc (List.mem_map.2 ⟨e,he,rfl⟩)
variable {enc:TypeId × Value→H} {W:World}
theorem Qro{cs:Array Value}{d:DataW H}{ps:List MemPlace}(hb:Rows.uptoBulk d≤1048576)
 (h:DataW.Trod enc Tryz.prog W 0 (fun _=>true) true 26 (.agg cs) d ps):
 ∃(a1 a2 a3:Option Addr) (c1 c2 c3:Nat) (js:List S2) (bs:List B6) (hs:List H3),cs=#[.slice a1 js.length c1,.slice a2 bs.length c2,.slice a3 hs.length c3]∧FrRow W a1 a2 a3 c1 c2 c3 js bs hs∧FrSized js bs hs∧js.length≤1048576∧bs.length≤1048576∧hs.length≤1048576∧Rows.uptoBulkAll (js.map (spotD (H:=H)))≤Rows.uptoBulk d:=by
 obtain⟨fuel,h⟩:=h;obtain⟨n,v0,v1,v2,y0,y1,y2,hcs,hx,h0,h1,h2⟩:=Qqk Tryz.underlying26 Qrk rfl rfl rfl Qrh Qri Qrj rfl rfl rfl h;have e0:(Value.agg cs).cells.toList=cs.toList:=by rfl
 rw[e0] at hcs;clear h e0;obtain⟨a1,c1,js,e1,r1,l1,s1⟩:=Qdt (c:=S2.cells) (dat:=spotD) (sz:=2) ⟨⟨#[]⟩,⟨#[]⟩⟩ (by decide) (fun _=>rfl) Tryz.underlying22 Qe8 (fun fuel cs x hx=>by
  obtain⟨s,t,e,hd,_⟩:=Qii Tryz.underlying36 Tryz.underlying34 Qe8 Qbq rfl rfl rfl rfl hx
  exact⟨⟨s,t⟩,e,hd⟩) h0
 obtain⟨a2,c2,bs,e2,r2,l2,s2⟩:=Qdt (c:=B6.cells) (dat:=barD) (sz:=6) ⟨0,0,⟨#[]⟩,⟨#[]⟩,⟨#[]⟩,⟨#[]⟩⟩ (by decide) (fun _=>rfl) Tryz.underlying23 Qfd (fun fuel cs x hx=>Qig Tryz.underlying39 Tryz.underlying34 Tryz.underlying3 Qfd Qbq cellsInt rfl rfl rfl rfl rfl rfl rfl rfl rfl rfl rfl rfl hx) h1;obtain⟨a3,c3,hs,e3,r3,l3,s3⟩:=Qdt (c:=H3.cells) (dat:=holdD) (sz:=3) ⟨0,0,⟨#[]⟩⟩ (by decide) (fun _=>rfl) Tryz.underlying24 Qfe (fun fuel cs x hx=>Qih Tryz.underlying68 Tryz.underlying34 Tryz.underlying3 Tryz.underlying3 Qfe Qbq cellsInt cellsInt rfl rfl rfl rfl rfl rfl hx) h2;obtain rfl:v0=_:=by simpa using e1
 obtain rfl:v1=_:=by simpa using e2
 obtain rfl:v2=_:=by simpa using e3
 have hd:d=.agg [y0.1,y1.1,y2.1]:=hx;subst hd;have b0:Rows.uptoBulk y0.1≤1048576:=Nat.le_trans (by simp only[Rows.uptoBulk,Rows.uptoBulkAll];omega) hb;have b1:Rows.uptoBulk y1.1≤1048576:=Nat.le_trans (by simp only[Rows.uptoBulk,Rows.uptoBulkAll];omega) hb;have b2:Rows.uptoBulk y2.1≤1048576:=Nat.le_trans (by simp only[Rows.uptoBulk,Rows.uptoBulkAll];omega) hb;have k0:=Qcx b0 l1 s1;have k1:=Qcx b1 l2 s2;have k2:=Qcx b2 l3 s3;have n0:=Qdw (H:=H) spotD (fun e=>(Qi4 e).1) js;have n1:=Qdw (H:=H) barD (fun e=>(Qi5 e).1) bs;have n2:=Qdw (H:=H) holdD (fun e=>(Qi6 e).1) hs;refine⟨a1,a2,a3,c1,c2,c3,js,bs,hs,by rw[←Array.toArray_toList (xs:=cs),hcs],⟨r1,r2,r3⟩,⟨fun p hp=>?_,fun p hp=>?_,fun p hp=>?_⟩,by omega,by omega,by omega,Nat.le_trans (Qcx (Nat.le_refl _) l1 s1) (by simp only[Rows.uptoBulk,Rows.uptoBulkAll];omega)⟩
 ·
  have g1:=Qdx (H:=H) spotD hp;have g2:=(Qi4 (H:=H) p).2;omega
 ·
  have g1:=Qdx (H:=H) barD hp;have g2:=(Qi5 (H:=H) p).2;omega
 ·
  have g1:=Qdx (H:=H) holdD hp;have g2:=(Qi6 (H:=H) p).2;omega
end
theorem Qbr{s:ByteArray}{l:List UInt8}(h:s.data.toList=l):s=⟨l.toArray⟩:=by
 obtain⟨⟨m⟩⟩:=s;simp at h;subst h;rfl
theorem gSpot:Tryz.prog.globalNamed "rafter/raftersame.Spot" =some 0:=by kernel_rfl
theorem gSpotType:(Tryz.prog.globals[0]?).map (·.type)=some 36:=by kernel_rfl
theorem gBar:Tryz.prog.globalNamed "rafter/raftersame.Bar" =some 1:=by kernel_rfl
theorem gBarType:(Tryz.prog.globals[1]?).map (·.type)=some 39:=by kernel_rfl
theorem gHold:Tryz.prog.globalNamed "rafter/raftersame.Hold" =some 2:=by kernel_rfl
theorem gHoldType:(Tryz.prog.globals[2]?).map (·.type)=some 68:=by kernel_rfl
theorem Qrp{W:World}{rest:List (String × DataW Unit)}(h:laidMet Tryz.prog (("rafter/raftersame.Spot",Rows.laid_rafter_raftersame_Spot) :: rest) W):W.cell? ⟨0,0,none⟩=some (.string ⟨#[109,97,114,107]⟩)∧W.cell? ⟨0,1,none⟩=some (.string ⟨#[]⟩):=by
 obtain⟨ps,⟨g,t,cs,fuel,p,q,hg,ht,hvar,hd,_,_⟩,_⟩:=h;obtain rfl:=Option.some.inj (gSpot.symm.trans hg);obtain rfl:=Option.some.inj (gSpotType.symm.trans ht);obtain⟨x,y,hcs,hx,_⟩:=Qii Tryz.underlying36 Tryz.underlying34 Qe8 Qbq rfl rfl rfl rfl hd;simp only[Rows.laid_rafter_raftersame_Spot,DataW.agg.injEq,List.cons.injEq,DataW.lit.injEq,Lit.string.injEq,and_true] at hx;obtain⟨h0,h1⟩:=hx;have c:∀i,W.cell? ⟨0,i,none⟩=cs.toList[i]?:=fun i=>by rw[World.var?_cell gSpot hvar i];simp
 rw[hcs] at c;refine⟨?_,?_⟩
 · rw[c 0,←Qbr h0.symm];rfl
 · rw[c 1,←Qbr h1.symm];rfl
theorem Qrq{W:World}{rest:List (String × DataW Unit)}(h:laidMet Tryz.prog (("rafter/raftersame.Bar",Rows.laid_rafter_raftersame_Bar) :: rest) W):
 W.cell? ⟨1,0,none⟩=some (.int .i64 (-9))∧W.cell? ⟨1,1,none⟩=some (.int .i64 0)∧W.cell? ⟨1,2,none⟩=some (.string ⟨#[]⟩)∧W.cell? ⟨1,3,none⟩=some (.string ⟨#[]⟩)∧W.cell? ⟨1,4,none⟩=some (.string ⟨#[]⟩)∧W.cell? ⟨1,5,none⟩=some (.string ⟨#[]⟩):=by
 obtain⟨ps,⟨g,t,cs,fuel,p,q,hg,ht,hvar,hd,_,_⟩,_⟩:=h;obtain rfl:=Option.some.inj (gBar.symm.trans hg);obtain rfl:=Option.some.inj (gBarType.symm.trans ht);obtain⟨b,hcs,hx⟩:=Qig Tryz.underlying39 Tryz.underlying34 Tryz.underlying3 Qfd Qbq cellsInt rfl rfl rfl rfl rfl rfl rfl rfl rfl rfl rfl rfl hd;simp only[Rows.laid_rafter_raftersame_Bar,barD,textD,DataW.agg.injEq,List.cons.injEq,DataW.lit.injEq,Lit.string.injEq,Lit.int.injEq,true_and,and_true] at hx;obtain⟨h0,h1,h2,h3,h4,h5⟩:=hx;have c:∀i,W.cell? ⟨1,i,none⟩=cs.toList[i]?:=fun i=>by rw[World.var?_cell gBar hvar i];simp
 rw[hcs] at c;refine⟨?_,?_,?_,?_,?_,?_⟩
 · rw[c 0,h0];rfl
 · rw[c 1,h1];rfl
 · rw[c 2,←Qbr h2.symm];rfl
 · rw[c 3,←Qbr h3.symm];rfl
 · rw[c 4,←Qbr h4.symm];rfl
 · rw[c 5,←Qbr h5.symm];rfl
theorem Qrr{W:World}{rest:List (String × DataW Unit)}(h:laidMet Tryz.prog (("rafter/raftersame.Hold",Rows.laid_rafter_raftersame_Hold) :: rest) W):W.cell? ⟨2,0,none⟩=some (.int .i64 (-9))∧W.cell? ⟨2,1,none⟩=some (.int .i64 0)∧W.cell? ⟨2,2,none⟩=some (.string ⟨#[]⟩):=by
 obtain⟨ps,⟨g,t,cs,fuel,p,q,hg,ht,hvar,hd,_,_⟩,_⟩:=h;obtain rfl:=Option.some.inj (gHold.symm.trans hg);obtain rfl:=Option.some.inj (gHoldType.symm.trans ht);obtain⟨b,hcs,hx⟩:=Qih Tryz.underlying68 Tryz.underlying34 Tryz.underlying3 Tryz.underlying3 Qfe Qbq cellsInt cellsInt rfl rfl rfl rfl rfl rfl hd;simp only[Rows.laid_rafter_raftersame_Hold,holdD,textD,DataW.agg.injEq,List.cons.injEq,DataW.lit.injEq,Lit.string.injEq,Lit.int.injEq,true_and,and_true] at hx;obtain⟨h0,h1,h2⟩:=hx;have c:∀i,W.cell? ⟨2,i,none⟩=cs.toList[i]?:=fun i=>by rw[World.var?_cell gHold hvar i];simp
 rw[hcs] at c;refine⟨?_,?_,?_⟩
 · rw[c 0,h0];rfl
 · rw[c 1,h1];rfl
 · rw[c 2,←Qbr h2.symm];rfl
theorem Qrs{W:World}{rest:List (String × DataW Unit)}(h:laidMet Tryz.prog (("rafter/raftersame.Spot",Rows.laid_rafter_raftersame_Spot) :: ("rafter/raftersame.Bar",Rows.laid_rafter_raftersame_Bar) :: ("rafter/raftersame.Hold",Rows.laid_rafter_raftersame_Hold) :: rest) W):Marks3 W:=by
 obtain⟨s0,s1⟩:=Qrp h;obtain⟨b0,b1,b2,b3,b4,b5⟩:=Qrq (Qdv h);obtain⟨h0,h1,h2⟩:=Qrr (Qdv (Qdv h));exact⟨s0,s1,b0,b1,b2,b3,b4,b5,h0,h1,h2⟩
end Go.Proofs.YtodfmpjhcmapmaaGreatDoor
namespace Go.Proofs.YtodfmpjhcmapmaaGreatDoor
open Go.RowKit
set_option linter.unusedVariables false
set_option linter.unusedSimpArgs false
theorem FrameFault.few{js:List S2}{bs:List B6}{hs:List H3}{x:Int}(h:FrameFault js bs hs 0 x):¬Many js.length bs.length hs.length∧(∀(i:Nat) (b:B6),bs[i]?=some b→BarCode js b 0)∧(∀i y,hs[i]?=some y→holdAt js.length hs i y=0)∧x=0:=by
 rcases h with ⟨_,h,_⟩|⟨_,k,b,_,_,_,h,_⟩|⟨h1,h2,h⟩
 · cases h
 · exact absurd rfl h
 ·
  rcases h with ⟨_,_,_,_,_,h,_⟩|⟨h3,_,h4⟩
  · exact absurd rfl h
  · exact⟨h1,h2,h3,h4⟩
theorem Qki{js:List S2}{bs:List B6}{hs:List H3}(hz:FrSized js bs hs){b:B6}(h:BarCode js b 0):∃p:Nat × Nat × Rat × Rat,BarV 1048576 js b p∧p.1<js.length∧p.2.1<js.length∧¬(p.2.2.1=0∧p.2.2.2=0):=by
 rcases h with ⟨_,h⟩|⟨h1,h2,s,t,hs,ht,px,py,qx,qy,vc,vl,vm,q1,q2,q3,q4,_,_,_,hc⟩
 · cases h
 have hne:¬(px=qx∧py=qy):=fun e=>by rw[if_pos e] at hc;cases hc
 have z1:=hz.j s (List.mem_of_getElem? hs);have z2:=hz.j t (List.mem_of_getElem? ht);have g1:=h1.1;have g2:=h2.1;have g3:=h1.2;have g4:=h2.2;refine⟨(b.a.toNat,b.b.toNat,qx - px,qy - py),⟨by simp only;omega,by simp only;omega,fun e=>?_,s,t,px,py,qx,qy,hs,ht,z1.1,z1.2,z2.1,z2.2,q1,q2,q3,q4,rfl,rfl⟩,by simp only;omega,by simp only;omega,fun ⟨e1,e2⟩=>hne ⟨?_,?_⟩⟩
 ·
  simp only at e;rw[e,ht] at hs;cases hs;exact hne ⟨q1.inj q3,q2.inj q4⟩
 · simp only at e1
   grind
 · simp only at e2
   grind
theorem Qf4{P:Nat→Prop}(n:Nat)(h:P n):∃k,P k∧∀m,m<k→¬P m:=by
 induction n using Nat.strongRecOn with
 |ind n ih=>
  by_cases hm:∃m,m<n∧P m
  · obtain⟨m,h1,h2⟩:=hm
    exact ih m h1 h2
  · exact⟨n,h,fun m h1 h2=>hm ⟨m,h1,h2⟩⟩
theorem BarCode.ex(js:List S2)(b:B6):∃c,BarCode js b c:=by
 by_cases h:IsJ js.length b.a∧IsJ js.length b.b
 ·
  obtain⟨⟨h1,h2⟩,h3,h4⟩:=h;obtain⟨px,q1⟩:=QOf.ex (js[b.a.toNat]'(by omega)).x.data.toList;obtain⟨py,q2⟩:=QOf.ex (js[b.a.toNat]'(by omega)).y.data.toList;obtain⟨qx,q3⟩:=QOf.ex (js[b.b.toNat]'(by omega)).x.data.toList;obtain⟨qy,q4⟩:=QOf.ex (js[b.b.toNat]'(by omega)).y.data.toList;obtain⟨vc,q5⟩:=QOf.ex b.c.data.toList;obtain⟨vl,q6⟩:=QOf.ex b.l.data.toList;obtain⟨vm,q7⟩:=QOf.ex b.m.data.toList;exact⟨_,.inr ⟨⟨h1,h2⟩,⟨h3,h4⟩,_,_,List.getElem?_eq_getElem _,List.getElem?_eq_getElem _,px,py,qx,qy,vc,vl,vm,q1,q2,q3,q4,q5,q6,q7,rfl⟩⟩
 · exact⟨4,.inl ⟨h,rfl⟩⟩
theorem FrameFault.ex(js:List S2)(bs:List B6)(hs:List H3):∃c x,FrameFault js bs hs c x:=by
 by_cases hm:Many js.length bs.length hs.length
 · exact⟨2,0,.inl ⟨hm,rfl,rfl⟩⟩
 by_cases hb:∃(k:Nat) (b:B6),bs[k]?=some b∧¬BarCode js b 0
 ·
  obtain⟨k0,hk0⟩:=hb;obtain⟨k,⟨b,h1,h2⟩,h3⟩:=Qf4 (P:=fun k=>∃b,bs[k]?=some b∧¬BarCode js b 0) k0 hk0;obtain⟨c,hc⟩:=BarCode.ex js b;refine⟨c,k,.inr (.inl ⟨hm,k,b,h1,fun i x hi hx=>Classical.byContradiction fun hn=>h3 i hi ⟨x,hx,hn⟩,hc,fun e=>h2 (e ▸ hc),rfl⟩)⟩
 ·
  have hb':∀(i:Nat) (x:B6),bs[i]?=some x→BarCode js x 0:=fun i x hx=>Classical.byContradiction fun hn=>hb ⟨i,x,hx,hn⟩
  by_cases hh:∃(k:Nat) (y:H3),hs[k]?=some y∧holdAt js.length hs k y≠0
  ·
   obtain⟨k0,hk0⟩:=hh;obtain⟨k,⟨y,h1,h2⟩,h3⟩:=Qf4 (P:=fun k=>∃y,hs[k]?=some y∧holdAt js.length hs k y≠0) k0 hk0;exact⟨_,_,.inr (.inr ⟨hm,hb',.inl ⟨k,y,h1,fun i x hi hx=>Classical.byContradiction fun hn=>h3 i hi ⟨x,hx,hn⟩,rfl,h2,rfl⟩⟩)⟩
  · exact⟨0,0,.inr (.inr ⟨hm,hb',.inr ⟨fun i x hx=>Classical.byContradiction fun hn=>hh ⟨i,x,hx,hn⟩,rfl,rfl⟩⟩)⟩
end Go.Proofs.YtodfmpjhcmapmaaGreatDoor
