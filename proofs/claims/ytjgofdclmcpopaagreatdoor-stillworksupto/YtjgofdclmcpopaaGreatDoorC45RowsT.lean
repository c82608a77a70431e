import Derived.Test.YtjgofdclmcpopaaGreatDoorC40RowsR
import Derived.Test.YtjgofdclmcpopaaGreatDoorC42BalC
namespace Go.Proofs.YtjgofdclmcpopaaGreatDoor
open Go.RowKit
open Go.Proofs.Tryz
set_option linter.unusedSimpArgs false
set_option linter.unusedVariables false
set_option maxHeartbeats 8000000
set_option maxRecDepth 1000000
def textD{H:Type}(s:ByteArray):DataW H:=.lit (.string s.data.toList)
def spotD{H:Type}(s:S2):DataW H:=.agg [textD s.x,textD s.y]
def barD{H:Type}(b:B6):DataW H:=.agg [.lit (.int .i64 b.a),.lit (.int .i64 b.b),textD b.c,textD b.e,textD b.l,textD b.m]
def holdD{H:Type}(h:H3):DataW H:=.agg [.lit (.int .i64 h.j),.lit (.int .i64 h.w),textD h.q]
def loadD{H:Type}(l:L3):DataW H:=.agg [.lit (.int .i64 l.j),.agg [textD l.x,textD l.y]]
section
variable {H:Type} {enc:TypeId × Value->H} {P:Program} {w:World} {base:Nat} {spare:Nat->Bool} {held:Bool} {fuel:Nat} {cs:List Value} {x:DataW H × List MemPlace} {tE tS tQ tI tI':TypeId} {f0 f1 f2 f3 f4 f5:Field}
theorem Qry(uB:P.underlying tE=some (.struct #[f0,f1,f2,f3,f4,f5]))(uQ:P.underlying tQ=some .string)(uI:P.underlying tI=some (.int .i64))(cB:P.cellsOf tE=6)(cQ:P.cellsOf tQ=1)(cI:P.cellsOf tI=1)
 (t0:f0.type=tI) (t1:f1.type=tI) (t2:f2.type=tQ) (t3:f3.type=tQ) (t4:f4.type=tQ) (t5:f5.type=tQ) (o0:f0.offset=0) (o1:f1.offset=1) (o2:f2.offset=2) (o3:f3.offset=3) (o4:f4.offset=4) (o5:f5.offset=5)
 (h:DataW.trod enc P w base spare held fuel tE cs=some x):∃b:B6,cs=b.cells/\x.1=barD b:=by
 obtain⟨xs,n,rfl,rfl,hl,hxl,hf⟩:=DataW.trod_struct uB h;rw[cB] at hl;clear h;have h0:=hf 0 f0 rfl;have h1:=hf 1 f1 rfl;have h2:=hf 2 f2 rfl;have h3:=hf 3 f3 rfl;have h4:=hf 4 f4 rfl;have h5:=hf 5 f5 rfl;rw[t0,o0,cI] at h0;rw[t1,o1,cI] at h1;rw[t2,o2,cQ] at h2;rw[t3,o3,cQ] at h3;rw[t4,o4,cQ] at h4;rw[t5,o5,cQ] at h5;clear hf
 match cs,hl,xs,hxl with
 | [v0,v1,v2,v3,v4,v5],_,[y0,y1,y2,y3,y4,y5],_=>
   simp only[List.drop_zero,List.drop_succ_cons,List.take_succ_cons,List.take_zero,List.getElem?_cons_zero,List.getElem?_cons_succ] at h0 h1 h2 h3 h4 h5;obtain⟨a,e0,rfl,_⟩:=DataW.trod_int uI h0;obtain⟨b,e1,rfl,_⟩:=DataW.trod_int uI h1;obtain⟨c,e2,rfl,_⟩:=DataW.trod_string uQ h2;obtain⟨e,e3,rfl,_⟩:=DataW.trod_string uQ h3;obtain⟨l,e4,rfl,_⟩:=DataW.trod_string uQ h4;obtain⟨m,e5,rfl,_⟩:=DataW.trod_string uQ h5;obtain rfl:v0=_:=by simpa using e0
   obtain rfl:v1=_:=by simpa using e1
   obtain rfl:v2=_:=by simpa using e2
   obtain rfl:v3=_:=by simpa using e3
   obtain rfl:v4=_:=by simpa using e4
   obtain rfl:v5=_:=by simpa using e5
   exact⟨⟨a,b,c,e,l,m⟩,rfl,rfl⟩
theorem Qrz(uB:P.underlying tE=some (.struct #[f0,f1,f2]))(uQ:P.underlying tQ=some .string)(uI:P.underlying tI=some (.int .i64))(uI':P.underlying tI'=some (.int .i64))(cB:P.cellsOf tE=3)(cQ:P.cellsOf tQ=1)(cI:P.cellsOf tI=1)(cI':P.cellsOf tI'=1)
 (t0:f0.type=tI) (t1:f1.type=tI') (t2:f2.type=tQ) (o0:f0.offset=0) (o1:f1.offset=1) (o2:f2.offset=2)
 (h:DataW.trod enc P w base spare held fuel tE cs=some x):∃b:H3,cs=b.cells/\x.1=holdD b:=by
 obtain⟨xs,n,rfl,rfl,hl,hxl,hf⟩:=DataW.trod_struct uB h;rw[cB] at hl;clear h;have h0:=hf 0 f0 rfl;have h1:=hf 1 f1 rfl;have h2:=hf 2 f2 rfl;rw[t0,o0,cI] at h0;rw[t1,o1,cI'] at h1;rw[t2,o2,cQ] at h2;clear hf
 match cs,hl,xs,hxl with
 | [v0,v1,v2],_,[y0,y1,y2],_=>
   simp only[List.drop_zero,List.drop_succ_cons,List.take_succ_cons,List.take_zero,List.getElem?_cons_zero,List.getElem?_cons_succ] at h0 h1 h2;obtain⟨a,e0,rfl,_⟩:=DataW.trod_int uI h0;obtain⟨b,e1,rfl,_⟩:=DataW.trod_int uI' h1;obtain⟨c,e2,rfl,_⟩:=DataW.trod_string uQ h2;obtain rfl:v0=_:=by simpa using e0
   obtain rfl:v1=_:=by simpa using e1
   obtain rfl:v2=_:=by simpa using e2
   exact⟨⟨a,b,c⟩,rfl,rfl⟩
theorem Qr0(u:P.underlying tE=some (.struct #[f0,f1,f2]))(cB:P.cellsOf tE=3){t0 t1 t2:TypeId}(e0:f0.type=t0)(e1:f1.type=t1)(e2:f2.type=t2)(k0:P.cellsOf t0=1)(k1:P.cellsOf t1=1)(k2:P.cellsOf t2=1)(o0:f0.offset=0)(o1:f1.offset=1)(o2:f2.offset=2)
 (h:DataW.trod enc P w base spare held fuel tE cs=some x):∃n v0 v1 v2 y0 y1 y2,cs= [v0,v1,v2]/\x.1=.agg [y0.1,y1.1,y2.1]/\DataW.trod enc P w base spare held n t0 [v0]=some y0/\DataW.trod enc P w base spare held n t1 [v1]=some y1/\DataW.trod enc P w base spare held n t2 [v2]=some y2:=by
 obtain⟨xs,n,rfl,rfl,hl,hxl,hf⟩:=DataW.trod_struct u h;rw[cB] at hl;clear h;have h0:=hf 0 f0 rfl;have h1:=hf 1 f1 rfl;have h2:=hf 2 f2 rfl;rw[e0,o0,k0] at h0;rw[e1,o1,k1] at h1;rw[e2,o2,k2] at h2;clear hf
 match cs,hl,xs,hxl with
 | [v0,v1,v2],_,[y0,y1,y2],_=>
   simp only[List.drop_zero,List.drop_succ_cons,List.take_succ_cons,List.take_zero,List.getElem?_cons_zero,List.getElem?_cons_succ] at h0 h1 h2;exact⟨n,v0,v1,v2,y0,y1,y2,rfl,rfl,h0,h1,h2⟩
theorem Qc0{α:Type}{c:α->List Value}{dat:α->DataW H}{sz:Nat}{t:TypeId}(dflt:α)(hsz:0<sz)(hc:∀e,(c e).length=sz)(ut:P.underlying t=some (.slice tE))(cE:P.cellsOf tE=sz)
 (each:∀(fuel:Nat) (cs:List Value) (x:DataW H × List MemPlace),DataW.trod enc P w base spare held fuel tE cs=some x->∃e,cs=c e/\x.1=dat e)
 (h:DataW.trod enc P w base spare held fuel t cs=some x):
 ∃(a:Option Addr) (cap:Nat) (es:List α),cs= [.slice a es.length cap]/\ARow c w a cap es/\(∀l r,x.1=.slice l r->l=es.map dat)/\((es= []/\x.1=.nil)∨∃l r,x.1=.slice l r):=by
 rcases Deep.open_slice ut h with ⟨rfl,rfl⟩|⟨a,len,cap,m,n,D,Pl,rfl,hb,hlc,hcm,hm,rfl,hD⟩
 . exact⟨none,0,[],rfl,⟨by simp,⟨fun j u hj=>by simp at hj⟩⟩,fun l r e=>by simp at e,.inl ⟨rfl,rfl⟩⟩
 have hlm:len<=m:=by rw[hm];split<;>omega
 have eachI:∀i,∃f:α,i<len->w.cells? base (a.add (i*sz)) sz=some (c f)/\D i=dat f:=by
  intro i;by_cases hi:i<len
  .
   obtain⟨cs',h1,h2⟩:=hD i (by omega);obtain⟨f,rfl,hd⟩:=each _ _ _ h2;rw[cE] at h1;exact⟨f,fun _=>⟨h1,hd⟩⟩
  . exact⟨dflt,fun h=>absurd h hi⟩
 obtain⟨F,hF⟩:=Classical.axiomOfChoice eachI;refine⟨some a,cap,(List.range len).map F,by simp,⟨by simpa using hlc,⟨?_⟩⟩,?_,.inr ⟨_,_,rfl⟩⟩
 .
  intro j u hj;have hjl:=(gZ hj).1;rw[Qb2 hc] at hjl;simp only[List.length_map,List.length_range] at hjl;have hil:j / sz<len:=(Nat.div_lt_iff_lt_mul hsz).2 hjl;have hkl:j % sz<sz:=Nat.mod_lt _ hsz;obtain⟨u',hu'⟩:∃u',(c (F (j / sz)))[j % sz]?=some u':=⟨_,gE (by rw[hc];exact hkl)⟩;have h1:((List.range len).map F)[j / sz]?=some (F (j / sz)):=by simp[hil]
  have h2:=Qb3 hc _ _ _ _ _ h1 hu';rw[Nat.div_add_mod' j sz,hj] at h2;obtain rfl:=Option.some.inj h2;obtain⟨hcl,_⟩:=hF _ hil;obtain⟨_,_,hcell⟩:=World.cells?_some hcl;obtain⟨b,off,sp⟩:=a;have c0:=hcell (j % sz) (by omega);have z:=(World.cells?_some (hF 0 (Nat.lt_of_le_of_lt (Nat.zero_le _) hil)).1).2.2 0 hsz;have hsp:sp=none:=by
   cases sp with
   |none=>rfl
   |some v=>
    exfalso
    obtain⟨z0,hz0⟩:∃z0,(c (F 0))[0]?=some z0:=⟨_,gE (by rw[hc];exact hsz)⟩;rw[hz0] at z;simp only[Nat.zero_mul,Addr.add,if_true,World.cell?] at z
    split at z<;>simp at z
  subst hsp;have ea:∀j k,(Addr.add ⟨b,off,none⟩ j).add k=⟨b,off+j+k,none⟩:=by
   intro j k;unfold Addr.add;by_cases hj:j=0<;>by_cases hk:k=0<;>simp[hj,hk]
  rw[ea,hu',Nat.add_assoc,Nat.div_add_mod'] at c0;exact⟨b,off,rfl,World.block_lt_of_cell? _ _ c0,c0⟩
 .
  intro l r e;have e1:(List.range len).map D=l:=by simpa using (DataW.slice.inj e).1
  rw[<-e1,List.map_map];refine List.map_congr_left fun i hi=>?_
  exact(hF i (by simpa using hi)).2
end
end Go.Proofs.YtjgofdclmcpopaaGreatDoor
namespace Go.Proofs.YtjgofdclmcpopaaGreatDoor
open Go.ChangeShapes Go.WideShapes Go.ChangeAt Go.RowKit
open Go.Proofs.Tryz
set_option linter.unusedSimpArgs false
set_option linter.unusedVariables false
set_option maxHeartbeats 8000000
set_option maxRecDepth 1000000
theorem Qkg:prog.cellsOf 69=6:=by kernel_rfl
theorem Qkh:prog.cellsOf 71=3:=by kernel_rfl
theorem Qsu:prog.cellsOf 50=1:=by kernel_rfl
theorem Qsv:prog.cellsOf 51=1:=by kernel_rfl
theorem Qsw:prog.cellsOf 52=1:=by kernel_rfl
theorem Qsx:prog.cellsOf 54=3:=by kernel_rfl
theorem Qsy:prog.readableRec 54=true:=by kernel_rfl
theorem Qsz:54<prog.types.size:=by refine of_decide_eq_true ?_;kernel_rfl
section
variable {H:Type}
theorem Qeb{α:Type}(dat:α->DataW H)(hd:∀e,1<=Rows.uptoBulk (dat e))(es:List α):es.length<=Rows.uptoBulkAll (es.map dat):=by
 induction es with
 |nil=>simp
 |cons e l ih=>
  have:=hd e;simp only[List.map_cons,Rows.uptoBulkAll,List.length_cons];omega
theorem Qch{α:Type}{dat:α->DataW H}{es:List α}{d:DataW H}{N:Nat}(hb:Rows.uptoBulk d<=N)(hl:∀l r,d=.slice l r->l=es.map dat)(hs:(es= []/\d=.nil)∨∃l r,d=.slice l r):Rows.uptoBulkAll (es.map dat)<=N:=by
 rcases hs with ⟨rfl,_⟩|⟨l,r,rfl⟩
 . simp[Rows.uptoBulkAll]
 . rw[<-hl l r rfl]
   exact Nat.le_trans (Qsn l r) hb
theorem Qec(s:S2):1<=Rows.uptoBulk (spotD (H:=H) s)/\s.x.size+s.y.size<=Rows.uptoBulk (spotD (H:=H) s):=by
 simp[spotD,textD,Rows.uptoBulk,Rows.uptoBulkAll];omega
theorem Qki(b:B6):1<=Rows.uptoBulk (barD (H:=H) b)/\b.c.size+b.e.size+b.l.size+b.m.size<=Rows.uptoBulk (barD (H:=H) b):=by
 simp[barD,textD,Rows.uptoBulk,Rows.uptoBulkAll];omega
theorem Qkj(h:H3):1<=Rows.uptoBulk (holdD (H:=H) h)/\h.q.size<=Rows.uptoBulk (holdD (H:=H) h):=by
 simp[holdD,textD,Rows.uptoBulk,Rows.uptoBulkAll];omega
theorem Qed{α:Type}(dat:α->DataW H){es:List α}{e:α}(he:e∈ es):Rows.uptoBulk (dat e)<=Rows.uptoBulkAll (es.map dat):=Qke (List.mem_map.2 ⟨e,he,rfl⟩)
variable {enc:TypeId × Value->H} {W:World}
theorem Qs0{cs:Array Value}{d:DataW H}{ps:List MemPlace}(hb:Rows.uptoBulk d<=1048576)
 (h:DataW.Trod enc prog W 0 (fun _=>true) true 54 (.agg cs) d ps):
 ∃(a1 a2 a3:Option Addr) (c1 c2 c3:Nat) (js:List S2) (bs:List B6) (hs:List H3),cs=#[.slice a1 js.length c1,.slice a2 bs.length c2,.slice a3 hs.length c3]/\FrRow W a1 a2 a3 c1 c2 c3 js bs hs/\FrSized js bs hs/\js.length<=1048576/\bs.length<=1048576/\hs.length<=1048576/\Rows.uptoBulkAll (js.map (spotD (H:=H)))<=Rows.uptoBulk d:=by
 obtain⟨fuel,h⟩:=h;obtain⟨n,v0,v1,v2,y0,y1,y2,hcs,hx,h0,h1,h2⟩:=Qr0 underlying54 Qsx rfl rfl rfl Qsu Qsv Qsw rfl rfl rfl h;have e0:(Value.agg cs).cells.toList=cs.toList:=by rfl
 rw[e0] at hcs;clear h e0;obtain⟨a1,c1,js,e1,r1,l1,s1⟩:=Qc0 (c:=S2.cells) (dat:=spotD) (sz:=2) ⟨⟨#[]⟩,⟨#[]⟩⟩ (by decide) (fun _=>rfl) underlying50 Qc2 (fun fuel cs x hx=>by
  obtain⟨s,t,e,hd,_⟩:=Qge underlying25 underlying23 Qc2 Qc1 rfl rfl rfl rfl hx
  exact⟨⟨s,t⟩,e,hd⟩) h0
 obtain⟨a2,c2,bs,e2,r2,l2,s2⟩:=Qc0 (c:=B6.cells) (dat:=barD) (sz:=6) ⟨0,0,⟨#[]⟩,⟨#[]⟩,⟨#[]⟩,⟨#[]⟩⟩ (by decide) (fun _=>rfl) underlying51 Qkg (fun fuel cs x hx=>Qry underlying69 underlying23 underlying3 Qkg Qc1 cellsInt rfl rfl rfl rfl rfl rfl rfl rfl rfl rfl rfl rfl hx) h1;obtain⟨a3,c3,hs,e3,r3,l3,s3⟩:=Qc0 (c:=H3.cells) (dat:=holdD) (sz:=3) ⟨0,0,⟨#[]⟩⟩ (by decide) (fun _=>rfl) underlying52 Qkh (fun fuel cs x hx=>Qrz underlying71 underlying23 underlying3 underlying3 Qkh Qc1 cellsInt cellsInt rfl rfl rfl rfl rfl rfl hx) h2;obtain rfl:v0=_:=by simpa using e1
 obtain rfl:v1=_:=by simpa using e2
 obtain rfl:v2=_:=by simpa using e3
 have hd:d=.agg [y0.1,y1.1,y2.1]:=hx;subst hd;have b0:Rows.uptoBulk y0.1<=1048576:=Nat.le_trans (by simp only[Rows.uptoBulk,Rows.uptoBulkAll];omega) hb;have b1:Rows.uptoBulk y1.1<=1048576:=Nat.le_trans (by simp only[Rows.uptoBulk,Rows.uptoBulkAll];omega) hb;have b2:Rows.uptoBulk y2.1<=1048576:=Nat.le_trans (by simp only[Rows.uptoBulk,Rows.uptoBulkAll];omega) hb;have k0:=Qch b0 l1 s1;have k1:=Qch b1 l2 s2;have k2:=Qch b2 l3 s3;have n0:=Qeb (H:=H) spotD (fun e=>(Qec e).1) js;have n1:=Qeb (H:=H) barD (fun e=>(Qki e).1) bs;have n2:=Qeb (H:=H) holdD (fun e=>(Qkj e).1) hs;refine⟨a1,a2,a3,c1,c2,c3,js,bs,hs,by rw[<-Array.toArray_toList (xs:=cs),hcs],⟨r1,r2,r3⟩,⟨fun p hp=>?_,fun p hp=>?_,fun p hp=>?_⟩,by omega,by omega,by omega,Nat.le_trans (Qch lZ l1 s1) (by simp only[Rows.uptoBulk,Rows.uptoBulkAll];omega)⟩
 .
  have g1:=Qed (H:=H) spotD hp;have g2:=(Qec (H:=H) p).2;omega
 .
  have g1:=Qed (H:=H) barD hp;have g2:=(Qki (H:=H) p).2;omega
 .
  have g1:=Qed (H:=H) holdD hp;have g2:=(Qkj (H:=H) p).2;omega
end
end Go.Proofs.YtjgofdclmcpopaaGreatDoor
namespace Go.Proofs.YtjgofdclmcpopaaGreatDoor
open Go.Proofs.Tryz
set_option linter.unusedSimpArgs false
set_option linter.unusedVariables false
set_option maxHeartbeats 8000000
set_option maxRecDepth 1000000
def unitV(c:Nat):Vec:=fun i=>if i=c then 1 else 0
def nullF(c:Nat)(S:List Vec)(hs:List Nat):Nat->Vec
 |0=>unitV c
 |k+1=>upd (nullF c S hs k) (hs.getD k 0) (-(S.getD k (fun _=>0) c))
theorem Qdx{c:Nat}{S:List Vec}{hs:List Nat}{k h:Nat}{r:Vec}(hh:hs[k]?=some h)(hr:S[k]?=some r):nullF c S hs (k+1)=upd (nullF c S hs k) h (-(r c)):=by
 simp[nullF,List.getD,hh,hr]
theorem Qja{c:Nat}{S:List Vec}{hs:List Nat}(P:Rat->Prop)(h0:P 0)(h1:P 1)(hS:∀r,r∈ S->P (-(r c)))(hl:S.length=hs.length):∀k,k<=hs.length->∀i,P (nullF c S hs k i)
 |0,_,i=>by
  unfold nullF unitV
  split
  . exact h1
  . exact h0
 |k+1,hk,i=>by
  rw[Qdx (gE (by omega)) (gE (by omega))];unfold upd
  split
  . exact hS _ (List.getElem_mem _)
  . exact Qja P h0 h1 hS hl k (by omega) i
theorem Qcb{c:Nat}{S:List Vec}{hs:List Nat}(hl:S.length=hs.length){d:Nat}(hd:d ∉ hs):∀k,k<=hs.length->nullF c S hs k d=unitV c d
 |0,_=>rfl
 |k+1,hk=>by
  have hkl:k<hs.length:=by omega
  rw[Qdx (gE hkl) (gE (by omega)),Qaj _ _ (fun e=>hd (by rw[e];exact List.getElem_mem _))];exact Qcb hl hd k (by omega)
theorem Ech.lt_at:∀{S:List Vec} {hs:List Nat} {lo hi:Nat},Ech lo hi S hs->∀(i j a b:Nat),i<j->hs[i]?=some a->hs[j]?=some b->a<b
 |r :: S,h :: hs,lo,hi,⟨_,_,_,h4⟩,0,j+1,a,b,_,ha,hb=>by
  obtain rfl:=Option.some.inj (show some h=some a from ha);have:=(h4.head b (mO (show hs[j]?=some b from hb))).1;omega
 |r :: S,h :: hs,lo,hi,⟨_,_,_,h4⟩,i+1,j+1,a,b,hij,ha,hb=>h4.lt_at i j a b (by omega) ha hb
 | [],[],_,_,_,i,j,a,b,_,ha,_=>by simp at ha
 | [],_ :: _,_,_,h,_,_,_,_,_,_,_=>h.elim
 |_ :: _,[],_,_,h,_,_,_,_,_,_,_=>h.elim
theorem Qjb{c lo hi:Nat}{S:List Vec}{hs:List Nat}(he:Ech lo hi S hs){t h:Nat}{r:Vec}(hh:hs[t]?=some h)(hr:S[t]?=some r):∀k,k<=hs.length->t<k->nullF c S hs k h= -(r c)
 |0,_,ht=>by omega
 |k+1,hk,ht=>by
  have hkl:k<hs.length:=by omega
  have hl:=he.len;rw[Qdx (gE hkl) (gE (by omega))];by_cases e:t=k
  .
   subst e;obtain rfl:hs[t]=h:=Option.some.inj ((gE hkl).symm.trans hh);obtain⟨_,rfl⟩:=gZ hr;exact Qa2 _ _ _
  .
   have:=he.lt_at t k h hs[k] (by omega) hh (gE hkl);rw[Qaj _ _ (by omega)];exact Qjb he hh hr k (by omega) (by omega)
theorem Qqt(W:Nat)(r x:Vec)(h c:Nat)(hh:h<W)(hc:c<W)(hne:h≠c)(h0:∀i,i<W->i≠h->i≠c->r i*x i=0):dot W r x=r h*x h+r c*x c:=by
 have e:=Qb7 W r (upd x h 0) h (x h) hh;have e1:upd (upd x h 0) h (x h)=x:=by
  funext i;unfold upd
  split
  . next q=>rw[q]
  . rfl
 rw[e1,Qa2] at e;rw[e,Qcr W r (upd x h 0) c hc (fun i hi hic=>?_),Qaj _ _ (Ne.symm hne)]
 . grind
 .
  by_cases e2:i=h
  . rw[e2,Qa2];grind
  . rw[Qaj _ _ e2];exact h0 i hi e2 hic
theorem Qjc{c W:Nat}{S:List Vec}{hs:List Nat}(he:Cln 0 W S hs)(hc:c<W)(hn:c ∉ hs):Null W S (nullF c S hs hs.length):=by
 intro r hr;obtain⟨t,ht,rfl⟩:=List.getElem_of_mem hr;have hl:=he.ech.len;have hS:S[t]?=some S[t]:=gE ht;obtain⟨h,hh⟩:∃h,hs[t]?=some h:=⟨hs[t]'(by omega),gE _⟩;obtain⟨a1,a2,a3⟩:=he.at t S[t] h hS hh;have hm:=mO hh;have hhW:=(he.ech.head h hm).2;have hne:h≠c:=fun e=>hn (e ▸ hm)
 rw[Qqt W _ _ h c hhW hc hne (fun i hi h1 h2=>?_)]
 .
  rw[Qjb he.ech hh hS hs.length lZ (by omega),a1,Qcb hl hn hs.length lZ];simp only[unitV,if_pos];grind
 .
  by_cases hi':i∈ hs
  .
   rcases Nat.lt_or_ge i h with h3|h3
   . rw[a2 i h3];grind
   . rw[a3 i hi' (by omega)];grind
  .
   rw[Qcb hl hi' hs.length lZ];simp only[unitV,if_neg h2];grind
theorem Qqu{c:Nat}{S:List Vec}{hs:List Nat}(hl:S.length=hs.length)(hn:c ∉ hs):nullF c S hs hs.length c=1:=by
 rw[Qcb hl hn hs.length lZ];exact if_pos rfl
theorem Qqv{c d:Nat}{S:List Vec}{hs:List Nat}(hl:S.length=hs.length)(hd:d ∉ hs)(hne:d≠c):nullF c S hs hs.length d=0:=by
 rw[Qcb hl hd hs.length lZ];exact if_neg hne
def freeTo(hs:List Nat)(k:Nat):List Nat:=(List.range k).filter (fun c=>decide (c ∉ hs))
theorem Qf3(hs:List Nat)(k:Nat):freeTo hs (k+1)=if k∈ hs then freeTo hs k else freeTo hs k++ [k]:=by
 unfold freeTo;rw[List.range_succ,List.filter_append];by_cases h:k∈ hs
 . rw[if_pos h,List.filter_cons_of_neg (by simpa using h)]
   simp
 . rw[if_neg h,List.filter_cons_of_pos (by simpa using h)]
   simp
theorem freeTo_mem{hs:List Nat}{k c:Nat}:c∈ freeTo hs k↔c<k/\c ∉ hs:=by
 unfold freeTo;rw[List.mem_filter,List.mem_range];simp
theorem Qjd(hs:List Nat)(k:Nat):(freeTo hs k).length<=k:=by
 unfold freeTo;have:=List.length_filter_le (fun c=>decide (c ∉ hs)) (List.range k);rw[List.length_range] at this;exact this
theorem Qje(W:Nat)(M:List Vec):∀c,c<=W->∃(L S:List Vec) (hs:List Nat),Elim W M c L S hs/\L.length+S.length=M.length
 |0,_=>⟨M,[],[],Elim.start W M,rfl⟩
 |c+1,hc=>by
  obtain⟨L,S,hs,he,hl⟩:=Qje W M c (by omega);by_cases h:∀r,r∈ L->r c=0
  . exact⟨L,S,hs,he.skip h,hl⟩
  .
   obtain⟨s,hs1,hs2⟩:∃s,s∈ L/\s c≠0:=by
    apply bC;intro hn;exact h fun r hr=>bC fun h0=>hn ⟨r,hr,h0⟩
   obtain⟨j,hj,hj2⟩:=List.getElem_of_mem hs1;refine⟨_,_,_,he.step (j:=j) (s:=s) (by rw[gE hj,hj2]) hs2,?_⟩;rw[List.length_map,List.length_eraseIdx_of_lt hj,List.length_append,List.length_singleton];omega
theorem Qqw{W:Nat}{M:List Vec}(h:M.length<W):∃x:Vec,Null W M x/\∃c,c<W/\x c≠0:=by
 obtain⟨L,S,hs,he,hl⟩:=Qje W M W lZ;obtain⟨h1,h2⟩:=he.done;have hlen:=h1.len;obtain⟨c,_,c2,c3⟩:=h1.hole (by omega);obtain⟨x,x1,x2⟩:=h1.solve W (fun i=>if i=c then 1 else 0) lZ;refine⟨x,(h2 x).2 x2,c,c2,?_⟩;rw[x1 c c3,if_pos rfl];decide
def sumQ:Nat->(Nat->Rat)->Rat
 |0,_=>0
 |n+1,f=>sumQ n f+f n
theorem Qjf:∀(n:Nat) (f:Nat->Rat),(∀p,p<n->f p=0)->sumQ n f=0
 |0,_,_=>rfl
 |n+1,f,h=>by rw[sumQ,Qjf n f (fun p hp=>h p (by omega)),h n (by omega)];grind
theorem Qf4:∀(n:Nat) (f:Nat->Rat) (a:Nat),a<n->(∀p,p<n->p≠a->f p=0)->sumQ n f=f a
 |n+1,f,a,ha,h=>by
  rw[sumQ];by_cases e:a=n
  . subst e
    rw[Qjf a f (fun p hp=>h p (by omega) (by omega)),Rat.zero_add]
  . rw[Qf4 n f a (by omega) (fun p hp=>h p (by omega)),h n (by omega) (by omega),Rat.add_zero]
theorem Qjg:∀(n:Nat) (f:Nat->Rat) (a b:Nat),a<n->b<n->a≠b->(∀p,p<n->p≠a->p≠b->f p=0)->sumQ n f=f a+f b
 |n+1,f,a,b,ha,hb,hab,h=>by
  rw[sumQ];by_cases e:a=n
  .
   subst e;rw[Qf4 a f b (by omega) (fun p hp hne=>h p (by omega) (by omega) hne)];grind
  .
   by_cases e2:b=n
   . subst e2
     rw[Qf4 b f a (by omega) (fun p hp hne=>h p (by omega) hne (by omega))]
   . rw[Qjg n f a b (by omega) (by omega) hab (fun p hp=>h p (by omega)),h n (by omega) (by omega) (by omega),Rat.add_zero]
open Go.RowKit
structure NRow (w:World) (g W K:Nat) (us:List FE) (x:Vec):Prop where
 blk:QBlk w g us
 len:us.length=W
 sz:∀t,t∈ us->t.k<=K
 q:∀(i:Nat) (t:FE),us[i]?=some t->t.q=x i
theorem NRow.below{w w':World}{g W K:Nat}{us:List FE}{x:Vec}(h:NRow w g W K us x)(hb:Below w.heap.size w w'):NRow w' g W K us x:=⟨h.blk.below hb,h.len,h.sz,h.q⟩
theorem NRow.put{w:World}{g W K i:Nat}{us:List FE}{x:Vec}{a b c:Value}{q:Rat}(h:NRow w g W K us x)(hi:i<W)(hv:FracV w (.agg #[a,b,c]) q)(hf:Fits q K)(hK:0<K):NRow (((w.setCell ⟨g,i*3,none⟩ a).setCell ⟨g,i*3+1,none⟩ b).setCell ⟨g,i*3+2,none⟩ c) g W K (us.set i ⟨a,b,c,q,K⟩) (upd x i q):=by
 have hl:i<us.length:=by have:=h.len;omega
 refine⟨Qel h.blk hl hv hf hK,by rw[List.length_set];exact h.len,fun t ht=>?_,fun j t hj=>?_⟩
 .
  rcases List.mem_or_eq_of_mem_set ht with ht|rfl
  . exact h.sz t ht
  . exact Nat.le_refl _
 .
  by_cases e:j=i
  .
   subst e;rw[List.getElem?_set_self hl] at hj;cases hj;exact(Qa2 _ _ _).symm
  .
   rw[List.getElem?_set_ne (Ne.symm e)] at hj;rw[Qaj _ _ e];exact h.q j t hj
theorem NRow.new(w:World)(W K:Nat)(C:Array Value)(hC:C=((List.replicate W FE.zero).flatMap FE.cells).toArray)(hK:0<K):NRow (w.alloc (.cells C 128)) w.heap.size W K (List.replicate W FE.zero) (fun _=>0):=
 ⟨QBlk.new w W C hC,by simp,fun t ht=>by obtain⟨_,rfl⟩:=List.mem_replicate.1 ht;exact hK,fun i t hi=>by obtain⟨_,rfl⟩:=List.mem_replicate.1 (mO hi);rfl⟩
theorem NRow.cells{w:World}{g W K i:Nat}{us:List FE}{x:Vec}(h:NRow w g W K us x)(hi:i<W):∃e:FE,w.cell? ⟨g,i*3,none⟩=some e.x/\w.cell? ⟨g,i*3+1,none⟩=some e.y/\w.cell? ⟨g,i*3+2,none⟩=some e.z/\w.frozen? ⟨g,i*3,none⟩=false/\w.frozen? ⟨g,i*3+1,none⟩=false/\w.frozen? ⟨g,i*3+2,none⟩=false:=by
 have hl:i<us.length:=by have:=h.len;omega
 obtain⟨gy,oy,hgy,_,t0,t1,t2⟩:=h.blk.row.at (gE hl);cases hgy;simp only[Nat.zero_add] at t0 t1 t2;exact⟨us[i],t0,t1,t2,h.blk.blk.free _,h.blk.blk.free _,h.blk.blk.free _⟩
theorem NRow.mr{w:World}{g W K:Nat}{us:List FE}{x:Vec}(h:NRow w g W K us x)(hx:∀i,W<=i->x i=0):MOk w W K ⟨some ⟨g,0,none⟩,W,us⟩/\(⟨some ⟨g,0,none⟩,W,us⟩:MR).q=x:=by
 refine⟨⟨?_,h.len,h.sz⟩,?_⟩
 .
  have:=h.blk.row;rw[h.len] at this;exact this
 .
  funext i;rcases Nat.lt_or_ge i W with hi|hi
  . rw[MR.q_at (r:=⟨some ⟨g,0,none⟩,W,us⟩) (e:=us[i]'(by have:=h.len;omega)) (gE _)]
    exact h.q i _ (gE _)
  . rw[MR.q_beyond (by show us.length<=i;have:=h.len;omega),hx i hi]
theorem Qub(a b:Option Addr)(ca cb W K c:Nat)(S:List MR)(hs:List Nat)(w:World)(hg:Glob w)(hr:CRow w a (S.map MR.val))(hh:CRow w b (headsV hs))(hok:Oks w W K S)(hlen:S.length=hs.length)(hlt:∀h,h∈ hs->h<W)(hc:c<W)(hW:W<=1000)(hl:hs.length<=1000)(hK0:1<K):
 Calls prog 202 #[.agg #[.int .i64 W,.slice a S.length ca,.slice b hs.length cb],.int .i64 c] w fun e w'=>∃(g:Nat) (us:List FE),e=.returned (.slice (some ⟨g,0,none⟩) W W)/\NRow w' g W K us (nullF c (S.map MR.q) hs hs.length)/\Below w.heap.size w w':=by
 obtain⟨HG,HR,HH,HOK,HLE,HLT⟩:=Ie hg hr hh hok hlen hlt;have hmk:=fun w=>Qci W (by omega) w
 obtain⟨MC,hMC⟩:=nm (((List.replicate W FE.zero).flatMap FE.cells).toArray);rw[hMC] at hmk;have HMC:=Hi hMC.symm;clear hg hr hh hok hlen hlt hMC;obtain⟨B0,hB0⟩:=nm w.heap.size;obtain⟨W1,hW1⟩:=nm (w.alloc (.cells #[.int .i64 W,.slice a S.length ca,.slice b hs.length cb] 252));have HB1:=Ua hW1;have HS1:=Uf hW1 hB0;obtain⟨W2,hW2⟩:=nm (W1.alloc (.cells MC 128));obtain⟨g,hgW⟩:=nm W1.heap.size;have hgw:w.heap.size+1=g:=by rw[<-hgW,<-hW1,World.size_alloc]
 have HB12:=Ua hW2;have HN2:O (NRow W2 g W K (List.replicate W FE.zero) (fun _=>0)):=Hi (by rw[<-hW2,<-hgW];exact NRow.new W1 W K MC HMC.o (by omega));obtain⟨x0,-⟩:=zc HS1.o;obtain⟨-,-,x2,-⟩:=zc (HS1.o.below HB12.o HS1.o.lt);obtain⟨HE1,HE2,HEB,HEG,HEW,hON⟩:=Ie hW1 hW2 hB0 hgW hgw (Qek (q:=1) (s:=⟨#[49]⟩) ((HG.o.below HB1.o).below HB12.o) one_q (by decide));have HLG:O (w.heap.size<=g):=Hi (by rw[<-hgW];exact HB1.o.size);rw[<-hW1] at x0;clear hW1 hW2 hB0 hgW hgw;go_enter func202,ntmps202;go_wp2_with fail;rw[HE1.o,HE2.o]
 try rw[HEW.o]
 try rw[HEB.o]
 go_fit hON.o;rintro e w3 ⟨⟨vn,rfl,hvn⟩,hb3⟩;obtain⟨nq,aq,lq,dq,mq,oq,pq,rfl,hvn⟩:=hvn;have HV3:O (FracV w3 (.agg #[.bool nq,.slice aq lq dq,.slice mq oq pq]) 1):=Hi ⟨nq,aq,lq,dq,mq,oq,pq,rfl,hvn⟩;have HN3:=Hi (HN2.o.below hb3);obtain⟨e0,c0,c1,c2,f0,f1,f2⟩:=HN3.o.cells hc;obtain⟨HS3,HB3⟩:=Ia ((HS1.o.below HB12.o HS1.o.lt).below hb3 (HS1.o.below HB12.o HS1.o.lt).lt) (HB1.o.trans ((HB12.o.trans (hb3.mono HB12.o.size)).mono HB1.o.size));obtain⟨V,hV⟩:=nm (((w3.setCell ⟨g,c*3,none⟩ (.bool nq)).setCell ⟨g,c*3+1,none⟩ (.slice aq lq dq)).setCell ⟨g,c*3+2,none⟩ (.slice mq oq pq));have HNV:O (NRow V g W K ((List.replicate W FE.zero).set c ⟨.bool nq,.slice aq lq dq,.slice mq oq pq,1,K⟩) (upd (fun _=>0) c 1)):=Hi (by rw[<-hV];exact HN3.o.put hc HV3.o (Fits.one.mono (by omega)) (by omega));have HBV:O (Below w.heap.size w V):=Hi (by
  rw[<-hV];have h1:=HLG.o
  exact((HB3.o.setCell (p:=⟨g,c*3,none⟩) h1 _).setCell (p:=⟨g,c*3+1,none⟩) h1 _).setCell (p:=⟨g,c*3+2,none⟩) h1 _)
 have HSV:O (SB V B0 252 #[.int .i64 W,.slice a S.length ca,.slice b hs.length cb]):=Hi (by
  rw[<-hV];have hne:B0≠g:=by have h1:=HS1.o.lt;have h2:=HEG.o;omega
  exact HS3.o.only ((((Only.refl g w3).setCell _ _).setCell _ _).setCell _ _) hne)
 obtain⟨-,-,y2,-⟩:=zc HSV.o;have HVE:=Hi hV;rw[<-hV] at y2;have HF1:O (upd (fun _=>0) c 1=nullF c (S.map MR.q) hs 0):=Hi (by
  funext i;unfold upd nullF unitV
  rfl)
 clear hvn hb3 hV x0 x2 hmk;go_wp2_with fail;rw[HVE.o];clear y2 c0 c1 c2 f0 f1 f2;go_loopw [18] (fun iv wr=>∃(k:Nat) (us:List FE),k<=hs.length/\iv=.int .i64 k/\NRow wr g W K us (nullF c (S.map MR.q) hs k)/\SB wr B0 252 #[.int .i64 W,.slice a S.length ca,.slice b hs.length cb]/\Below w.heap.size w wr) (fun iv _=>hs.length - (intOf iv).toNat)
 case atStart=>exact⟨0,_,Nat.zero_le _,rfl,HF1.o ▸ HNV.o,HSV.o,HBV.o⟩
 case round=>
  obtain⟨k,us,hk,rfl,hnr,hsb,hbw⟩:=hrel;obtain⟨HN,HS,HB⟩:=Ib hnr hsb hbw;clear hnr hsb hbw;by_cases hkl:k<hs.length
  .
   obtain⟨r,hrk⟩:∃r,S[k]?=some r:=⟨S[k]'(by have:=HLE.o;omega),gE _⟩;obtain⟨hd,hhd⟩:∃hd,hs[k]?=some hd:=⟨hs[k],gE hkl⟩;have hdW:hd<W:=HLT.o hd (mO hhd);have hrok:=(HOK.o.fr (Fr.of_below HB.o)) r (mO hrk);obtain⟨e,he⟩:∃e,r.ts[c]?=some e:=⟨r.ts[c]'(by have:=hrok.len;omega),gE _⟩;obtain⟨rb,ro,hra,hrb,d0,d1,d2⟩:=hrok.row.at he;have hev:=hrok.row.get he;have hek:=hrok.sz e (mO he);obtain⟨hb',ho',rfl,hhb,c2'⟩:=(HH.o.below HB.o).cell k (.int .i64 (hd:Nat)) (by simp[headsV,hhd]);obtain⟨gb,go,rfl,hgb,c1'⟩:=(HR.o.below HB.o).cell k r.val (by rw[List.getElem?_map,hrk];rfl);rw[MR.val,hra,hrok.len] at c1';obtain⟨-,x1,-⟩:=zc HS.o;have q2:((k:Int)<(hs.length:Int)):=by omega
   have q3:((c:Int)<(W:Int)):=by omega
   have q4:((k:Int)<(S.length:Int)):=by have:=HLE.o;omega
   have HNG:=Hi (Qco hev.1);have HFK:O (Fits (-e.q) K):=Hi (Fits.neg (hev.2.1.mono hek));have HQE:O (nullF c (S.map MR.q) hs (k+1)=upd (nullF c (S.map MR.q) hs k) hd (-e.q)):=Hi (by
    rw[Qdx hhd (r:=r.q) (by rw[List.getElem?_map,hrk];rfl),MR.q_at he])
   clear hrok he hev hek hrk hhd hra;go_wp2_with fail;go_fit HNG.o;rintro e' w4 ⟨⟨vn,rfl,hvn⟩,hb4⟩;obtain⟨nq',aq',lq',dq',mq',oq',pq',rfl,hvn⟩:=hvn;have HV4:O (FracV w4 (.agg #[.bool nq',.slice aq' lq' dq',.slice mq' oq' pq']) (-e.q)):=Hi ⟨nq',aq',lq',dq',mq',oq',pq',rfl,hvn⟩;obtain⟨HN4,HS4,HB4⟩:=Ib (HN.o.below hb4) (HS.o.below hb4 HS.o.lt) (HB.o.trans (hb4.mono HB.o.size));obtain⟨e0,c0,c1,c2,f0,f1,f2⟩:=HN4.o.cells hdW;have q5:((hd:Int)<(W:Int)):=by omega
   clear hvn hb4 c1' c2' x1 d0 d1 d2;go_wp2;go_roundw
   case rel=>
    have h1:=HLG.o;refine⟨k+1,_,by omega,by go_num,HQE.o ▸ HN4.o.put hdW HV4.o HFK.o (by omega),HS4.o.only ((((Only.refl g w4).setCell _ _).setCell _ _).setCell _ _) ?_,((HB4.o.setCell (p:=⟨g,hd*3,none⟩) h1 _).setCell (p:=⟨g,hd*3+1,none⟩) h1 _).setCell (p:=⟨g,hd*3+2,none⟩) h1 _⟩;have h1:=HS1.o.lt;have h2:=HEG.o;omega
   case measure=>simp[intOf];omega
  .
   obtain rfl:k=hs.length:=by omega
   go_wp2;go_ret;exact⟨g,us,rfl,HN.o,HB.o⟩
def appR(P:Program)(t ty:TypeId)(vs vx:Value)(w:World):Result Value:=(Builtin.append_ #[t,t] ty #[vs,vx]).run P w
@[go_sem ↓] theorem Qv2 (ρ:Operand->Value) (dst:Option Tmp) (x y:Operand) (t ty:TypeId) (pos:String) (after:Array Go.Edge) (guard:Option (Nat × Bool)) (w:World):
   (execOp ρ { dst,op:=.call { callee:=.builtin .append,args:=#[x,y],argTypes:=#[t,t] },type:=ty,pos,after,guard }).run prog w=(appR prog t ty (ρ x) (ρ y) w).andThen (fun v w'=>.ok (.value v) w'):=by
  have e:(#[x,y]:Array Operand).map ρ=#[ρ x,ρ y]:=by simp
  rw[BigFrame.execOp_builtin,BigFrame.builtin_append,e,Sem.run_bind]
  unfold appR
  simp only[Sem.run_pure]
theorem Grow.row{w:World}{B nb c:Nat}{v:Value}{ns:List MR}{r:MR}(h:Grow w B 190 1 IsSl v ns.length (ns.map MR.val))(hc:w.cell? ⟨nb,0,none⟩=some r.val)(hn:ns.length<=1000)(hB:B<=w.heap.size)(ty:TypeId):
 ∃v' w',appR prog 186 ty v (.slice (some ⟨nb,0,none⟩) 1 c) w=.ok v' w'/\Grow w' B 190 1 IsSl v' (ns++ [r]).length ((ns++ [r]).map MR.val)/\w.grownBy w' v.ownBlock:=by
 obtain⟨i,hi,hz⟩:=Option.map_eq_some_iff.1 Qcj;injection hz with z1 z2
 injection z2 with z2 z3
 obtain⟨v',w',h1,h2,h3,_⟩:=h.app (P:=prog) (t:=186) (ty:=ty) underlying186 hi z1 z2 z3 rfl (by decide) (fun u hu=>⟨none,0,0,by simpa [Value.cells] using hu⟩) ⟨nb,0,none⟩ 1 c [r.val] rfl (fun j u hj=>by
  match j,hj with
  |0,hj=>
   obtain rfl:=Option.some.inj hj
   exact hc) (fun u hu=>by obtain rfl:=List.mem_singleton.1 hu;rfl) (fun u hu=>by obtain rfl:=List.mem_singleton.1 hu;exact⟨_,_,_,rfl⟩) (by omega) (by decide) hB
 refine⟨v',w',h1,?_,h3⟩;rw[List.length_append,List.length_singleton,List.map_append];exact h2
theorem Qgl{w w':World}{B:Nat}{v:Value}(h:w.grownBy w' v.ownBlock)(hv:∀g,v.ownBlock=some g->B<=g)(hB:B<=w.heap.size):Below B w w':=
 ⟨h.os,h.tape,h.output,h.size,fun b hb=>h.block b (by omega) (fun e=>by have:=hv b e.symm;omega)⟩
theorem Quc{w w':World}{B n:Nat}{v:Value}{xs:List Value}(hg:Grow w B 190 1 IsSl v n xs)(h:w.grownBy w' v.ownBlock):Fr w w':=hg.only h (fun C hC=>IsSl.plain hC)
structure NullsAt (w w':World) (W K:Nat) (v:Value) (vs:List Vec) (ns:List MR):Prop where
 list:Grow w' w.heap.size 190 1 IsSl v ns.length (ns.map MR.val)
 ok:Oks w' W K ns
 q:ns.map MR.q=vs
 base:Below w.heap.size w w'
theorem Qud(a:Option Addr)(cap W K:Nat)(rs:List MR)(w:World)(hgl:Glob w)(I:Nat->List Vec->List Vec->List Nat->Prop)(hI:Going K I)(h:ARow MR.cells w a cap rs)(hok:Oks w W K rs)(hl:rs.length<=1000)(hW:W<=1000)(hK0:1<K)(hK:4*K+1<68719476000)(h0:I 0 (rs.map MR.q) [] [])
 (hfin:∀L S hs,I W L S hs->Ech 0 W S hs/\clnFits K S hs):
 Calls prog 120 #[.slice a rs.length cap,.int .i64 W] w fun e w'=>∃(L S:List Vec) (hs:List Nat) (v:Value) (ns:List MR),e=.returned v/\I W L S hs/\NullsAt w w' W K v ((freeTo hs W).map (fun c=>nullF c (cln S hs) hs hs.length)) ns:=by
 obtain⟨HST,HF,HG⟩:=Ib (Qgk a cap W K W rs w I hI h hok hl hW lZ (by omega) hK h0) hfin hgl;clear hI h hok h0 hfin hgl;go_enter func120,ntmps120;go_wp2_with fail;go_fit HST.o;rintro e w2 ⟨⟨L,S,hs,sv,hv,rfl,hi,hSl,hhl,hgs,hgh,hoS⟩,hb2⟩;obtain⟨b1,c1,rfl,_,_,_⟩:=hgs.slice;obtain⟨b2,c2,rfl,_,_,_⟩:=hgh.slice;obtain⟨hech,hcf⟩:=HF.o _ _ _ hi;obtain⟨HI,HE,HCF,HGS,HGH,HOS,HB2⟩:=If hi hech hcf hgs hgh hoS hb2;have HLE:O (S.length=hs.length):=Hi (by have:=hech.len;simpa using this);clear hi hgs hgh hoS hb2 hech hcf HST;obtain⟨B0,hB0⟩:=nm w2.heap.size;obtain⟨V,hV⟩:=nm (w2.alloc (.cells #[.int .i64 (W:Nat),.slice b1 S.length c1,.slice b2 hs.length c2] 252));have HBV:=Ua hV
 have HSV:=Uf hV hB0;have HCL:=Hi (Qky w.heap.size W K S hs (.slice b1 S.length c1) (.slice b2 hs.length c2) (W:Nat) V (HGS.o.below HBV.o) (HGH.o.below HBV.o) (HOS.o.fr (Fr.of_below HBV.o)) HLE.o (fun c hc=>(HE.o.head c hc).2) HCF.o (by omega) (by omega) (by omega) hK);obtain⟨x0,x1,x2,-⟩:=zc HSV.o;obtain⟨HVE,HBE⟩:=Ia hV hB0;rw[<-hV] at x0 x1 x2;rw[<-hB0] at x0 x1 x2;clear hV hB0;go_wp2_with fail;rw[HVE.o,HBE.o];clear x0 x1 x2;go_fit HCL.o;rintro e w4 ⟨rfl,S',hl4,hq4,hcw⟩;have HB3:=Hi (HB2.o.trans (HBV.o.mono HB2.o.size))
 have HB4:O (Below w.heap.size w w4):=Hi ⟨hcw.o.1.trans HB3.o.os,hcw.o.2.1.trans HB3.o.tape,hcw.o.2.2.1.trans HB3.o.output,Nat.le_trans HB3.o.size hcw.o.2.2.2,fun k hk=>(hcw.base k (Nat.lt_of_lt_of_le hk HB3.o.size) (fun e=>by have:=(hcw.rows.lt e).1;omega)).trans (HB3.o.block k hk)⟩;have HSV4:O (SB w4 B0 252 #[.int .i64 (W:Nat),.slice b1 S.length c1,.slice b2 hs.length c2]):=Hi (by
  have h1:=hcw.base B0 HSV.o.lt (fun e=>by
   obtain⟨D,d1,_⟩:=(HGS.o.below HBV.o).sb e
   exact HSV.o.unlike d1 row_stairs.symm rfl)
  have h2:=HSV.o;unfold SB at h2 ⊢;rw[h1]
  exact h2)
 obtain⟨HCW,HL4,HQ4⟩:=Ib hcw hl4 hq4;clear hcw hl4 hq4 HCL;go_wp2_with fail;go_loopw [14,6] (fun iv nv wr=>∃(k:Nat) (ns:List MR),k<=W/\iv=.int .i64 k/\Grow wr w4.heap.size 190 1 IsSl nv ns.length (ns.map MR.val)/\Oks wr W K ns/\ns.map MR.q=(freeTo hs k).map (fun c=>nullF c (S'.map MR.q) hs hs.length)/\Below w4.heap.size w4 wr) (fun iv _ _=>W - (intOf iv).toNat)
 case atStart=>exact⟨0,[],Nat.zero_le _,rfl,Grow.nil _ _ _ _ _,okNil,rfl,Below.refl _ _⟩
 case round=>
  obtain⟨k,ns,hk,rfl,hgr,hoks,hq,hbw⟩:=hrel;obtain⟨HGR,HOK,HQ,HBW⟩:=Ic hgr hoks hq hbw;have HNL:O (ns.length<=1000):=Hi (by
   have h1:=congrArg List.length hq;rw[List.length_map,List.length_map] at h1;have h2:=Qjd hs k
   omega)
  clear hgr hoks hq hbw;by_cases hkW:k<W
  .
   have q1:((k:Int)<(W:Int)):=by omega
   have hcw:=HCW.o.below HBW.o;obtain⟨x0,x1,x2,-⟩:=zc (HSV4.o.below HBW.o HSV4.o.lt);have HCO:=Hi (Qkv b2 c2 k hs wr hcw.heads.crow (by omega));have hnl:=Qub b1 b2 c1 c2 W K k S' hs wr (HG.o.below (HB4.o.trans (HBW.o.mono HB4.o.size))) hcw.rows.crow hcw.heads.crow hcw.ok (by have:=HL4.o;have:=HLE.o;omega) (fun c hc=>(HE.o.head c hc).2) hkW hW (by omega) hK0;rw[HL4.o] at hnl;have HNU:=Hi hnl;clear hcw hnl;go_wp2_with fail;go_fit HCO.o;rintro e w5 ⟨rfl,rfl⟩;by_cases hm:k∈ hs
   .
    rw[decide_eq_true hm];have HFS:O (freeTo hs (k+1)=freeTo hs k):=Hi (by rw[Qf3,if_pos hm]);clear hm;go_wp2;go_roundw
    case rel=>exact⟨k+1,ns,by omega,by go_num,HGR.o,HOK.o,by rw[HFS.o];exact HQ.o,HBW.o⟩
    case measure=>simp[intOf];omega
   .
    rw[decide_eq_false hm];have HFS:O (freeTo hs (k+1)=freeTo hs k++ [k]):=Hi (by rw[Qf3,if_neg hm]);have HNM:=Hi hm;clear hm;go_wp2_with fail;go_fit HNU.o;rintro e w6 ⟨g,us,rfl,hnr,hb6⟩;have hlS:(S'.map MR.q).length=hs.length:=by rw[List.length_map];have:=HL4.o;have:=HLE.o;omega
    obtain⟨hmr,hmq⟩:=hnr.mr (fun i hi=>by
     rw[Qcb hlS (fun hm=>by have:=(HE.o.head i hm).2;omega) hs.length lZ]
     exact if_neg (by omega))
    obtain⟨X,hX⟩:=nm (w6.alloc (.cells #[.slice (some ⟨g,0,none⟩) W W] 190));have hbX:Below w6.heap.size w6 X:=by rw[<-hX];exact(Below.refl _ _).alloc lZ _
    have hb5X:Below w5.heap.size w5 X:=hb6.trans (hbX.mono hb6.size);have hcX:X.cell? ⟨w6.heap.size,0,none⟩=some (MR.val ⟨some ⟨g,0,none⟩,W,us⟩):=by
     rw[MR.val,hnr.len,<-hX];exact Qbh w6 _ _
    have hgX:=HGR.o.below hb5X;have h4X:w4.heap.size<=X.heap.size:=by have h1:=HBW.o.size;have h2:=hb5X.size;omega
    obtain⟨v7,w7,happ,hg7,hgb⟩:=hgX.row (r:=⟨some ⟨g,0,none⟩,W,us⟩) (c:=1) hcX HNL.o h4X 186;have hf7:=Quc hgX hgb;have HG7:=Hi hg7;have HO7:O (Oks w7 W K (ns++ [⟨some ⟨g,0,none⟩,W,us⟩])):=Hi (fun r hr=>by
     rcases List.mem_append.1 hr with hr|hr
     . exact((HOK.o.fr (Fr.of_below hb5X)).fr hf7) r hr
     . obtain rfl:=List.mem_singleton.1 hr
       exact(hmr.fr (Fr.of_below hbX)).fr hf7)
    have HQ7:O ((ns++ [(⟨some ⟨g,0,none⟩,W,us⟩:MR)]).map MR.q=(freeTo hs (k+1)).map (fun c=>nullF c (S'.map MR.q) hs hs.length)):=Hi (by
     rw[HFS.o,List.map_append,List.map_append,HQ.o,List.map_singleton,List.map_singleton,hmq])
    have HB7:O (Below w4.heap.size w4 w7):=Hi ((HBW.o.trans (hb5X.mono HBW.o.size)).trans (Qgl hgb (fun g hg=>(hgX.lt hg).1) h4X));have happ':appR prog 186 186 u6 (.slice (some ⟨w6.heap.size,0,none⟩) 1 1) (w6.alloc (.cells #[.slice (some ⟨g,0,none⟩) W W] 190))=.ok v7 w7:=by rw[hX];exact happ
    clear hlS hmr hmq hX hbX hb5X hcX hgX h4X happ hg7 hgb hf7 hnr hb6 x0 x1 x2;go_wp2;go_roundw
    case rel=>exact⟨k+1,_,by omega,by go_num,HG7.o,HO7.o,HQ7.o,HB7.o⟩
    case measure=>simp[intOf];omega
  .
   obtain rfl:k=W:=by omega
   go_wp2;go_ret;refine⟨_,_,hs,_,ns,rfl,HI.o,HGR.o.mono HB4.o.size,HOK.o,?_,HB4.o.trans (HBW.o.mono HB4.o.size)⟩;rw[HQ.o,HQ4.o]
end Go.Proofs.YtjgofdclmcpopaaGreatDoor
