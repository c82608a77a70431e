import Derived.Test.YtppkmifkpjkgpaaGreatDoorC40PlnE
namespace Go.Proofs.YtppkmifkpjkgpaaGreatDoor
open Go.RowKit
open Go.Proofs.Tryz
set_option linter.unusedSimpArgs false
set_option linter.unusedVariables false
set_option maxHeartbeats 8000000
set_option maxRecDepth 1000000
theorem Qrx{a:List (Nat × Nat × Rat × Rat)}{vh:Vy}{nb k:Nat}{p:Nat × Nat × Rat × Rat}{E x:Vec}(f:a[k]?=some p)(g:p.1≠p.2.1)(h:∀r,E r=dot k (balM a nb vh r) x)(r:Nat):
 upd (upd (upd (upd E (2*p.1) (E (2*p.1)+x k*p.2.2.1)) (2*p.1+1) (E (2*p.1+1)+x k*p.2.2.2)) (2*p.2.1) (E (2*p.2.1) - x k*p.2.2.1)) (2*p.2.1+1) (E (2*p.2.1+1) - x k*p.2.2.2) r=dot (k+1) (balM a nb vh r) x:=by
 have i:balM a nb vh r k=barAt p r:=by simp only[balM,f]
 simp only[dot];rw[<-h r,i];unfold barAt;by_cases b:r=2*p.2.1+1
 . rw[b,Qar,if_neg (by omega),if_neg (by omega),if_neg (by omega),if_pos rfl]
   grind
 rw[Qad _ _ b];by_cases c:r=2*p.2.1
 . rw[c,Qar,if_neg (by omega),if_pos rfl]
   grind
 rw[Qad _ _ c];by_cases d:r=2*p.1+1
 . rw[d,Qar,if_neg (by omega),if_neg (by omega),if_pos rfl]
   grind
 rw[Qad _ _ d];by_cases e:r=2*p.1
 . rw[e,Qar,if_pos rfl]
   grind
 rw[Qad _ _ e,if_neg e,if_neg c,if_neg d,if_neg b];grind
theorem Qry{a:List (Nat × Nat × Rat × Rat)}{vh:Vy}{nb m h:Nat}{E x:Vec}(f:a.length=nb)(b:vh[m]?=some h)(c:∀r,E r=dot (nb+m) (balM a nb vh r) x)(r:Nat):
 upd E h (E h+x (nb+m)) r=dot (nb+m+1) (balM a nb vh r) x:=by
 have d:balM a nb vh r (nb+m)=if r=h then 1 else 0:=by
  simp only[balM];rw[List.getElem?_eq_none (by omega),Nat.add_sub_cancel_left,b];simp
 simp only[dot];rw[<-c r,d];by_cases e:r=h
 . rw[e,Qar,if_pos rfl]
   grind
 . rw[Qad _ _ e,if_neg e]
   grind
theorem PV.congr{w:Vz}{B g n K:Nat}{x y:Vec}{ts:List RT}(h:PV w B g n K x ts)(a:∀i,x i=y i):PV w B g n K y ts:=⟨h.blk,h.low,h.len,fun i t b=>by rw[<-a i];exact h.q i t b⟩
def Cells3(a b c:Addr)(x y z:Value)(v:Vz):Prop:=v.cell? a=some x/\v.cell? b=some y/\v.cell? c=some z
def Cell1(a:Addr)(x:Value)(v:Vz):Prop:=v.cell? a=some x
theorem RatVal.pv{w0 w w':Vz}{B g n K i b c:Nat}{x:Vec}{q:Rat}{ts:List RT}(h:RatVal w b q)(a:PV w0 B g n K x ts)(d:Below w0.heap.size w0 w)(e:w.setCell ⟨g,i,none⟩ (.pointer (some ⟨c,0,none⟩))=w'):RatVal w' b q:=by
 rw[<-e];exact h.fp (Fp.of_only ((Only.refl g w).setCell _ _) (a.below d).blk.blk (fun u f=>Qcj ts u (by simpa using f)))
abbrev kF(C k:Nat):Nat:=k*(2*C)+1
theorem Qj5(C k:Nat):kF C (k+1)=kF C k+2*C:=by
 show (k+1)*(2*C)+1=k*(2*C)+1+2*C
 rw[Nat.add_mul];omega
theorem kF_le{C k:Nat}(hk:k<=44):kF C k<=88*C+1:=by
 have:=Nat.mul_le_mul_right (2*C) hk
 show k*(2*C)+1<=_
 omega
theorem Qrz(a1 a2 a3 ab ah:Vx)(c1 c2 c3 cb ch KX:Nat)(js:List S2)(P:List B6)(hs:List H3)(vb:List (Nat × Nat × Rat × Rat))(vh:Vy)(tb th:List RT)(x:Vec)(w:Vz)
 (hg:∃m,w.cell? ⟨4,0,none⟩=some (.int .i64 m)) (hf:FrRow w a1 a2 a3 c1 c2 c3 js P hs) (hv:FrV 1048576 js P hs vb vh) (hw:∀(i:Nat) (h:H3),hs[i]?=some h->h.w=1∨h.w=2)
 (hb:PRow w ab tb) (cu:tb.length=P.length) (hh:PRow w ah th) (cv:th.length=hs.length) (cw:∀(i:Nat) (t:RT),tb[i]?=some t->t.2.1=x i/\t.2.2<=KX) (cx:∀(i:Nat) (t:RT),th[i]?=some t->t.2.1=x (P.length+i)/\t.2.2<=KX) (ew:KX<=1000000000):
 Calls prog 51 #[.agg #[.slice a1 js.length c1,.slice a2 P.length c2,.slice a3 hs.length c3],.slice ab P.length cb,.slice ah hs.length ch] w fun e w'=>∃(N g:Nat) (ts:List RT),N=2*js.length/\e=.returned (.slice (some ⟨g,0,none⟩) N N)/\PV w' w.heap.size g N (88*(KX+8388612)+1) (fun r=>dot (P.length+hs.length) (balM vb P.length vh r) x) ts/\Below w.heap.size w w':=by
 have n1:=hv.j;have n2:=hv.b;have n3:=hv.h;obtain⟨HG,HF,HV,HW,HB,dk,HH,dl,dm⟩:=Ih (RBag.start hg) hf hv hw hb cu hh cv cw;have dn:=Hi cx;obtain⟨C,hC⟩:=nm (KX+8388612);have ey:C<=1008388612:=by omega
 obtain⟨N,hN⟩:=nm (2*js.length);have eN:IntKind.i64.wrap (2*(js.length:Int))=(N:Int):=by rw[wrap_i64 _ (by omega) (by omega)];omega
 have cy:=fun w=>Qfw N (by omega) w
 obtain⟨MC,cg⟩:=nm ((List.replicate N (Value.pointer none)).toArray);rw[cg] at cy;obtain⟨B0,bf⟩:=nm w.heap.size;obtain⟨V,hV⟩:=nm (w.alloc (.cells #[.slice a1 js.length c1,.slice a2 P.length c2,.slice a3 hs.length c3] 26));have aq:=Ua hV;have az:=Uf hV bf;obtain⟨V1,bv⟩:=nm (V.alloc (.cells MC 84));obtain⟨g,bw⟩:=nm V.heap.size;have cz:=Ua bv;have dp:O (Noughts V1 g N 0 []):=Hi ⟨by rw[<-bv,<-bw,<-cg];exact SB.new V _ _,(fun t ht=>by cases ht),rfl,(fun t ht=>by cases ht)⟩;obtain⟨z0,-⟩:=zc az.o
 have ba:=Hi hN;have ev:N<=20:=by omega
 obtain⟨dq,dr,a0,ds⟩:=Ic hV bv bw bf;have dt:O (B0+1=g):=Hi (by rw[<-bw,<-hV,<-bf];simp);rw[<-hV,<-bf] at z0;clear hg hf hv hw hb cu hh cv cw cx hN cg hV bv bw bf;go_enter func51,ntmps51;go_wp2_with fail;rw[dq.o,dr.o];simp only[ds.o];rw[dt.o];clear z0 cy;go_loopw [22] (fun iv wr=>∃(k:Nat) (ts:List RT),k<=N/\iv=.int .i64 k/\Noughts wr g N k ts/\Below V.heap.size V wr) (fun iv _=>N - (intOf iv).toNat)
 case atStart=>exact⟨0,[],Nat.zero_le _,rfl,dp.o,cz.o⟩
 case round=>
  obtain⟨k,ts,hk,rfl,c0,ao⟩:=hrel;obtain⟨ci,K⟩:=Ia c0 ao;clear c0 ao;by_cases du:k<N
  .
   have q1:((k:Int)<(N:Int)):=by omega
   have dv:=Hi (RBag.nought ((HG.o.below (aq.o.trans (K.o.mono aq.o.size))).rebase));go_wp2_with fail;go_fit dv.o;rintro e w2 ⟨b,rfl,n⟩;have dw:=Hi n.base;have dx:=Hi (n.ts _ (List.Mem.head _)).1;have bc:=ci.o.below n.base;have f0:=bc.blk.free k;have t0:w2.cell? ⟨g,k,none⟩=some (.pointer none):=by
    rw[bc.blk.cell];have e:(ts.map ptrV++List.replicate (N - k) (Value.pointer none)).toArray[k]?=(ts.map ptrV++List.replicate (N - k) (Value.pointer none))[k]?:=by simp
    rw[e,List.getElem?_append_right (by rw[List.length_map,bc.len];exact Nat.le_refl _),List.length_map,bc.len,Nat.sub_self,List.getElem?_replicate,if_pos (by omega)]
   have dy:=Hi bc;clear n bc;go_wp2;go_roundw
   case rel=>exact⟨k+1,_,by omega,by go_num,dy.o.step du dx.o,(K.o.trans (dw.o.mono K.o.size)).setCell (p:=⟨g,k,none⟩) (show V.heap.size<=g by have:=a0.o;omega) _⟩
   case measure=>simp[intOf];omega
  .
   obtain rfl:N=k:=by omega
   have c4:=Hi (PV.of (B:=V.heap.size) ci.o (Nat.le_of_eq a0.o));obtain⟨-,z1,-⟩:=zc (az.o.below K.o az.o.lt);go_wp2_with fail;clear z1;go_loopw [33] (fun iv wr=>∃(k:Nat) (ts:List RT),k<=P.length/\iv=.int .i64 k/\PV wr V.heap.size g N (kF C k) (fun r=>dot k (balM vb P.length vh r) x) ts/\Below V.heap.size V wr) (fun iv _=>P.length - (intOf iv).toNat)
   case atStart=>exact⟨0,ts,Nat.zero_le _,rfl,(c4.o.mono (by show 1<=0*(2*C)+1;omega)).congr (fun i=>rfl),K.o⟩
   case round=>
    clear ci K c4;obtain⟨k,ts,hk,rfl,u,ao⟩:=hrel;obtain⟨G,K,ar⟩:=Ib u ao (aq.o.trans (ao.mono aq.o.size));clear u ao;by_cases dz:k<P.length
    .
     obtain⟨b,bx⟩:∃b,P[k]?=some b:=⟨_,gE dz⟩;obtain⟨p,cj⟩:∃p,vb[k]?=some p:=⟨vb[k]'(by have:=HV.o.lb;omega),gE _⟩;have bd:=HV.o.vb k b p bx cj;obtain⟨bb,bo,rfl,ea,d0,d1,d2,d3,d4,d5⟩:=(HF.o.b.below ar.o).bar bx;obtain⟨A,B,rx,ry⟩:=p;have hA:=bd.a;have hB:=bd.b;have ck:=bd.ne;obtain⟨s,t,_,_,_,_,e1,e2,_⟩:=bd.ex;have eb:=(gZ e1).1;have ec:=(gZ e2).1;simp only at hA hB ck eb ec;rw[hA] at d0;rw[hB] at d1;have q1:((k:Int)<(P.length:Int)):=by omega
     obtain⟨y,ak⟩:=nm wr.heap.size;obtain⟨X0,ap⟩:=nm (wr.alloc (.cells #[.int .i64 (A:Nat),.int .i64 (B:Nat),.string b.c,.string b.e,.string b.l,.string b.m] 80));have au:=Ua ap;have c5:=Uf ap ak;have a9:=Hi (ar.o.trans (au.o.mono ar.o.size));obtain⟨z0,z1,z2,-⟩:=zc (az.o.below (K.o.trans (au.o.mono K.o.size)) az.o.lt)
     obtain⟨ed,ee,c6,Q,cl⟩:=Id (Qvs a1 (some ⟨bb,bo,none⟩) a3 c1 c2 c3 k js P hs b (A,B,rx,ry) X0 ((HG.o.below a9.o).glob) (HF.o.below a9.o) bx bd n1 n2) cj ck ap ak;rw[<-ap] at z0 z1 z2;clear bx cj bd hA hB ck e1 e2 ap ak;go_wp2_with fail;rw[Q.o];simp only[cl.o];clear z0 z1 z2 d0 d1 d2 d3 d4 d5;go_fit ed.o;rintro e Z ⟨b1,b2,rfl,n⟩;obtain⟨⟨xt,tq,tk⟩,av⟩:∃t,tb[k]?=some t:=⟨tb[k]'(by have:=dk.o;omega),gE _⟩;obtain⟨bg,aw⟩:=dm.o k _ av;simp only at bg aw;subst bg;have aj:O (Below V.heap.size V Z):=Hi ((K.o.trans (au.o.mono K.o.size)).trans (n.base.mono (Nat.le_trans K.o.size au.o.size)));have R:Below w.heap.size w Z:=a9.o.trans (n.base.mono a9.o.size);have ca:=HB.o.below R;obtain⟨pb,po,rfl,a4,cm⟩:=HB.o.at av
     have x2:=ce R a4 cm;have W:=Nat.lt_of_lt_of_le a4 R.size;have c7:=Hi cm;have ax:=ca.vs _ (mO av);have bh:O (RatVal Z xt (x k)/\Fits (x k) KX/\0<KX):=Hi ⟨ax.1,ax.2.1.mono aw,Nat.lt_of_lt_of_le ax.2.2 aw⟩;have u:=(G.o.below au.o).below n.base;have L:=Hi (c5.o.below n.base c5.o.lt);obtain⟨E,hE⟩:∃E:Vec,(fun r=>dot k (balM vb P.length vh r) x)=E:=⟨_,rfl⟩;rw[hE] at u;obtain⟨KM,ay⟩:=nm (kF C k);rw[ay] at u;have ef:KM<=88*C+1:=by rw[<-ay];exact kF_le (by omega)
     obtain⟨eg,HE⟩:=Ia ay hE;clear G;have G:=Hi u;obtain⟨X,hX⟩:=nm (2*A);obtain⟨Y,hY⟩:=nm (2*A+1);obtain⟨X2,c8⟩:=nm (2*B);obtain⟨Y2,c9⟩:=nm (2*B+1);have wX:IntKind.i64.wrap (2*(A:Int))=(X:Int):=by rw[wrap_i64 _ (by omega) (by omega)];omega
     have wY:IntKind.i64.wrap ((X:Int)+1)=(Y:Int):=by rw[wrap_i64 _ (by omega) (by omega)];omega
     have ez:IntKind.i64.wrap (2*(B:Int))=(X2:Int):=by rw[wrap_i64 _ (by omega) (by omega)];omega
     have e0:IntKind.i64.wrap ((X2:Int)+1)=(Y2:Int):=by rw[wrap_i64 _ (by omega) (by omega)];omega
     have da:X<N:=by have:=ba.o;omega
     have cn:Y<N:=by have:=ba.o;omega
     have cc:X2<N:=by have:=ba.o;omega
     have bi:Y2<N:=by have:=ba.o;omega
     have iX:(X:Int)<(N:Int):=by omega
     have iY:(Y:Int)<(N:Int):=by omega
     have e5:(X2:Int)<(N:Int):=by omega
     have e6:(Y2:Int)<(N:Int):=by omega
     have eh:O (2*A=X/\2*A+1=Y/\2*B=X2/\2*B+1=Y2):=Hi ⟨hX,hY,c8,c9⟩;obtain⟨tX,kX,_,F,vX,fX,gX⟩:=u.get da;obtain⟨tY,kY,_,x1,vY,fY,gY⟩:=u.get cn;obtain⟨I,-⟩:=zc L.o;have U:=u.blk.blk.lt;have aa:=L.o.lt;have be:y≠g:=L.o.unlike u.blk.blk (by decide);obtain⟨Q,ad,ae,al⟩:=Ic F x1 x2 I;have f:O (RBag Z Z [(xt,x k,KX),(tX,E X,KM),(tY,E Y,KM),(b1,rx,8388611),(b2,ry,8388611)]):=Hi (((n.rebase.put vY fY gY).put vX fX gX).put bh.o.1 bh.o.2.1 bh.o.2.2);have db:O (RBag Z Z [(b1,rx,8388611),(b2,ry,8388611)]):=Hi n.rebase;clear n av aw R ca ax u hE ay hX hY c8 c9 vX fX gX vY fY gY cm;go_wp2_with fail
     refine AnyE.begin (S:=Cells3 ⟨g,X,none⟩ ⟨g,Y,none⟩ ⟨pb,po+k,none⟩ (.pointer (some ⟨tX,0,none⟩)) (.pointer (some ⟨tY,0,none⟩)) (.pointer (some ⟨xt,0,none⟩))) (T:=Cell1 ⟨y,0,none⟩ (.int .i64 (A:Nat))) (D:=[37,39]) (by kernel_rfl) ?_;have hS:Cells3 ⟨g,X,none⟩ ⟨g,Y,none⟩ ⟨pb,po+k,none⟩ (.pointer (some ⟨tX,0,none⟩)) (.pointer (some ⟨tY,0,none⟩)) (.pointer (some ⟨xt,0,none⟩)) Z.drew:=⟨F,x1,x2⟩;have M:Cell1 ⟨y,0,none⟩ (.int .i64 (A:Nat)) Z.drew:=I;refine Plan.of [0,1,2,3,4,5,6,7,8,9,10,11,12,13,14,15,16,17,18,19,22,23,24,25,26,27,28,29,30,31,32,33,20,21,34,35,36] ?_
     iterate 32
      first
       |(
        refine AnyE.tp (v:=?_) (by rfl) (by kernel_rfl) (by kernel_rfl) (by kernel_rfl) (by kernel_rfl) (by exact fun _ _ _ h=>h) (fun _=>hS) M (Or.inl ⟨by rfl,?_⟩) ?_
        rotate_left
        (focus(intro wq z;have bj:_=_:=z;clear z;first|(go_simp;done)|(go_simp;with_reducible rfl))))
       |(
        refine AnyE.sp (v:=?_) (by rfl) (by kernel_rfl) (by kernel_rfl) (by kernel_rfl) (by kernel_rfl) (by kernel_rfl) (by exact fun _ _ _ h=>h) hS M (Or.inl ⟨by rfl,?_⟩) ?_
        rotate_left
        (focus(intro wq z;obtain⟨bk,bl,bm⟩:=z;first|(go_simp;done)|(go_simp;with_reducible rfl))))
      (try simp only[Act.put,List.setIfInBounds_toArray,List.set_cons_zero,List.set_cons_succ])
     refine AnyE.op (by kernel_rfl) (by rfl) (fun KK H=>?_);go_simp;apply cM;apply RBag.mul (w0:=Z);(first|exact f.o|exact f.o.drew);(focus(repeat(first|exact mH|apply mT)));(focus(repeat(first|exact mH|apply mT)));omega;rintro e w3 ⟨b3,rfl,n⟩;clear f hS M;have f:=Hi n;clear n F x1 x2 I;obtain⟨F,x1⟩:=Ja f.o.base U Q.o ad.o;have x2:=ce f.o.base W ae.o;have I:=ce f.o.base aa al.o;refine H.out _ _ ⟨fun _ _=>⟨F,x1,x2⟩,I⟩ ?_;clear H KK;(try simp only[Act.put,List.setIfInBounds_toArray,List.set_cons_zero,List.set_cons_succ])
     have hS:Cells3 ⟨g,X,none⟩ ⟨g,Y,none⟩ ⟨pb,po+k,none⟩ (.pointer (some ⟨tX,0,none⟩)) (.pointer (some ⟨tY,0,none⟩)) (.pointer (some ⟨xt,0,none⟩)) w3:=⟨F,x1,x2⟩;have M:Cell1 ⟨y,0,none⟩ (.int .i64 (A:Nat)) w3:=I;refine AnyE.op (by kernel_rfl) (by rfl) (fun KK H=>?_);go_simp;apply cM;apply RBag.add (w0:=Z);(first|exact f.o|exact f.o.drew);(focus(repeat(first|exact mH|apply mT)));(focus(repeat(first|exact mH|apply mT)));omega;rintro e w4 ⟨b4,rfl,n⟩;clear f hS M;have f:=Hi n;clear n F x1 x2 I;obtain⟨F,x1⟩:=Ja f.o.base U Q.o ad.o;have x2:=ce f.o.base W ae.o;have I:=ce f.o.base aa al.o;refine H.out _ _ ⟨fun _ _=>⟨F,x1,x2⟩,I⟩ ?_;clear H KK
     (try simp only[Act.put,List.setIfInBounds_toArray,List.set_cons_zero,List.set_cons_succ]);have hS:Cells3 ⟨g,X,none⟩ ⟨g,Y,none⟩ ⟨pb,po+k,none⟩ (.pointer (some ⟨tX,0,none⟩)) (.pointer (some ⟨tY,0,none⟩)) (.pointer (some ⟨xt,0,none⟩)) w4:=⟨F,x1,x2⟩;have M:Cell1 ⟨y,0,none⟩ (.int .i64 (A:Nat)) w4:=I;refine AnyE.op (by kernel_rfl) (by rfl) (fun KK H=>?_);go_simp;apply cM;apply RBag.mul (w0:=Z);(first|exact f.o|exact f.o.drew);(focus(repeat(first|exact mH|apply mT)));(focus(repeat(first|exact mH|apply mT)));omega;rintro e w5 ⟨b5,rfl,n⟩;clear f hS M;have f:=Hi n;clear n F x1 x2 I;obtain⟨F,x1⟩:=Ja f.o.base U Q.o ad.o;have x2:=ce f.o.base W ae.o
     have I:=ce f.o.base aa al.o;refine H.out _ _ ⟨fun _ _=>⟨F,x1,x2⟩,I⟩ ?_;clear H KK;(try simp only[Act.put,List.setIfInBounds_toArray,List.set_cons_zero,List.set_cons_succ]);have hS:Cells3 ⟨g,X,none⟩ ⟨g,Y,none⟩ ⟨pb,po+k,none⟩ (.pointer (some ⟨tX,0,none⟩)) (.pointer (some ⟨tY,0,none⟩)) (.pointer (some ⟨xt,0,none⟩)) w5:=⟨F,x1,x2⟩;have M:Cell1 ⟨y,0,none⟩ (.int .i64 (A:Nat)) w5:=I;refine AnyE.op (by kernel_rfl) (by rfl) (fun KK H=>?_);go_simp;apply cM;apply RBag.add (w0:=Z);(first|exact f.o|exact f.o.drew);(focus(repeat(first|exact mH|apply mT)));(focus(repeat(first|exact mH|apply mT)));omega;rintro e w6 ⟨b6,rfl,n⟩;clear f hS M;have f:=Hi n;clear n F x1 x2 I;have F:=ce f.o.base U Q.o
     have x1:=ce f.o.base U ad.o;have x2:=ce f.o.base W ae.o;have I:=ce f.o.base aa al.o;refine H.out _ _ ⟨fun _ _=>⟨F,x1,x2⟩,I⟩ ?_;clear H KK;(try simp only[Act.put,List.setIfInBounds_toArray,List.set_cons_zero,List.set_cons_succ]);have hS:Cells3 ⟨g,X,none⟩ ⟨g,Y,none⟩ ⟨pb,po+k,none⟩ (.pointer (some ⟨tX,0,none⟩)) (.pointer (some ⟨tY,0,none⟩)) (.pointer (some ⟨xt,0,none⟩)) w6:=⟨F,x1,x2⟩;have M:Cell1 ⟨y,0,none⟩ (.int .i64 (A:Nat)) w6:=I
     first
      |(
       refine AnyE.tp (v:=?_) (by rfl) (by kernel_rfl) (by kernel_rfl) (by kernel_rfl) (by kernel_rfl) (by exact fun _ _ _ h=>h) (fun _=>hS) M (Or.inl ⟨by rfl,?_⟩) ?_
       rotate_left
       (focus(intro wq z;have bj:_=_:=z;clear z;first|(go_simp;done)|(go_simp;with_reducible rfl))))
      |(
       refine AnyE.sp (v:=?_) (by rfl) (by kernel_rfl) (by kernel_rfl) (by kernel_rfl) (by kernel_rfl) (by kernel_rfl) (by exact fun _ _ _ h=>h) hS M (Or.inl ⟨by rfl,?_⟩) ?_
       rotate_left
       (focus(intro wq z;obtain⟨bk,bl,bm⟩:=z;first|(go_simp;done)|(go_simp;with_reducible rfl))))
     (try simp only[Act.put,List.setIfInBounds_toArray,List.set_cons_zero,List.set_cons_succ]);refine Plan.done ?_;have am:=G.o.below f.o.base;have m4:=f.o.ts (b4,_,_) (List.Mem.tail _ (List.Mem.tail _ (List.Mem.head _)));have m6:=f.o.ts (b6,_,_) (List.Mem.head _);have f0:=am.blk.blk.free X;have af:=(am.mono (K':=KM+C) (by omega)).set da m4.1 (m4.2.1.mono (by simp only;omega)) (by omega) (Nat.le_refl (KM+C));obtain⟨Z1,ag⟩:=nm (w6.setCell ⟨g,X,none⟩ (.pointer (some ⟨b4,0,none⟩)));rw[ag] at af;have f1:=af.blk.blk.free Y;obtain⟨bY,kY,_,y1,_⟩:=af.get cn;have a5:Only g w6 Z1:=by rw[<-ag];exact(Only.refl g w6).setCell _ _
     have a6:=(L.o.below f.o.base L.o.lt).only a5 be;have a7:Z1.cell? ⟨y,0,none⟩=some (.int .i64 (A:Nat)):=a6.cell 0;have v6:=m6.1.pv G.o f.o.base ag;obtain⟨Z2,ai⟩:=nm (Z1.setCell ⟨g,Y,none⟩ (.pointer (some ⟨b6,0,none⟩)));have a8:=af.set cn v6 (m6.2.1.mono (by simp only;omega)) (by omega) (Nat.le_refl (KM+C));rw[ai] at a8;have bz:=Hi a8;have bn:O (∀(c:Nat) (q:Rat),RatVal w6 c q->RatVal Z2 c q):=Hi (fun c q hc=>(hc.pv G.o f.o.base ag).pv af bR ai);have bq:O (Below V.heap.size V Z2):=Hi (by
      rw[<-ai]
      exact(((aj.o.trans (f.o.base.mono aj.o.size)).trans (a5.below (Nat.le_of_eq a0.o) (Nat.le_trans aj.o.size f.o.base.size)))).setCell (p:=⟨g,Y,none⟩) (Nat.le_of_eq a0.o) _)
     have br:O (SB Z2 y 80 #[.int .i64 (A:Nat),.int .i64 (B:Nat),.string b.c,.string b.e,.string b.l,.string b.m]):=Hi (by
      rw[<-ai]
      exact a6.only ((Only.refl g Z1).setCell _ _) be)
     obtain⟨b0,b7,dc⟩:=Ib ag ai m4;clear am m4 m6 af a8 a5 a6 v6 ag ai;refine AnyE.one (i:=37) (by kernel_rfl) rfl (fun KK H=>?_);go_simp;rw[b0.o];refine H.out _ _ ⟨fun h=>absurd (by decide) h,a7⟩ ?_;clear H KK hS M F x1 x2 I f0;(try simp only[Act.put,List.setIfInBounds_toArray,List.set_cons_zero,List.set_cons_succ]);have M:Cell1 ⟨y,0,none⟩ (.int .i64 (A:Nat)) Z1:=a7;refine AnyE.takeT (i:=38) (v:=?_) rfl (by kernel_rfl) (by kernel_rfl) (by kernel_rfl) (by kernel_rfl) (fun _ _ _ h=>h) (Or.inl ⟨by rfl,?_⟩) (fun h=>absurd h (Qci (d:=37) (by rfl) (by rfl))) M ?_
     rotate_left
     .
      intro wq z;clear z
      first|(go_simp;done)|(go_simp;with_reducible rfl)
     (try simp only[Act.put,List.setIfInBounds_toArray,List.set_cons_zero,List.set_cons_succ]);have b8:O (Z2.cell? ⟨y,0,none⟩=some (.int .i64 (A:Nat))):=Hi (br.o.cell 0);refine AnyE.one (i:=39) (by kernel_rfl) rfl (fun KK H=>?_);go_simp;rw[b7.o];refine H.out _ _ ⟨fun h=>absurd (by decide) h,b8.o⟩ ?_;clear H KK M a7 f1 y1;(try simp only[Act.put,List.setIfInBounds_toArray,List.set_cons_zero,List.set_cons_succ]);refine AnyE.done (by kernel_rfl) ?_ _;have dd:=bn.o xt _ (f.o.ts (xt,_,_) (List.Mem.tail _ (List.Mem.tail _ (List.Mem.tail _ (List.Mem.tail _ (List.Mem.head _)))))).1;have cd:=bn.o b1 _ (f.o.ts (b1,_,_) (List.Mem.tail _ (List.Mem.tail _ (List.Mem.tail _ (List.Mem.tail _ (List.Mem.tail _ (List.Mem.tail _ (List.Mem.tail _ (List.Mem.head _))))))))).1
     have cf:=bn.o b2 _ (f.o.ts (b2,_,_) (List.Mem.tail _ (List.Mem.tail _ (List.Mem.tail _ (List.Mem.tail _ (List.Mem.tail _ (List.Mem.tail _ (List.Mem.tail _ (List.Mem.tail _ (List.Mem.head _)))))))))).1;obtain⟨E1,cp⟩:∃E1:Vec,upd (upd E X (E X+x k*rx)) Y (E Y+x k*ry)=E1:=⟨_,rfl⟩;have u:=bz.o;rw[cp] at u;have R:Below w.heap.size w Z2:=aq.o.trans (bq.o.mono aq.o.size);have x2:=ce R a4 c7.o;clear f G Q ad ae al aj L U W aa be b0 b7 dc bn b8;obtain⟨Z,bt⟩:=nm Z2;subst bt;have W:=Nat.lt_of_lt_of_le a4 R.size;obtain⟨tX,e7,_,F,vX,fX,gX⟩:=u.get cc;obtain⟨tY,e8,_,x1,vY,fY,gY⟩:=u.get bi;have L:=br;have aj:=bq;obtain⟨-,I,-⟩:=zc L.o;have U:=u.blk.blk.lt;have aa:=L.o.lt;have be:y≠g:=L.o.unlike u.blk.blk (by decide)
     obtain⟨Q,ad,ae,al⟩:=Ic F x1 x2 I;have f:O (RBag Z2 Z2 [(xt,x k,KX),(tX,E1 X2,KM+C),(tY,E1 Y2,KM+C),(b1,rx,8388611),(b2,ry,8388611)]):=Hi ((((((HG.o.below R).rebase.put cf (db.o.ts _ (List.Mem.tail _ (List.Mem.head _))).2.1 (show 0<8388611 by decide)).put cd (db.o.ts _ (List.Mem.head _)).2.1 (show 0<8388611 by decide)).put vY fY gY).put vX fX gX).put dd bh.o.2.1 bh.o.2.2);obtain⟨G,cq⟩:=Ia u cp;obtain⟨Z,bt⟩:=nm Z2;rw[bt] at F x1 x2 I Q ad ae al f G L aj U aa W;rw[bt];clear bz bq br dd cd cf cp u R vX fX gX vY fY gY bt Z2;go_wp2_with fail;refine AnyE.begin (S:=Cells3 ⟨g,X2,none⟩ ⟨g,Y2,none⟩ ⟨pb,po+k,none⟩ (.pointer (some ⟨tX,0,none⟩)) (.pointer (some ⟨tY,0,none⟩)) (.pointer (some ⟨xt,0,none⟩))) (T:=Cell1 ⟨y,1,none⟩ (.int .i64 (B:Nat))) (D:=[37,39]) (by kernel_rfl) ?_
     have hS:Cells3 ⟨g,X2,none⟩ ⟨g,Y2,none⟩ ⟨pb,po+k,none⟩ (.pointer (some ⟨tX,0,none⟩)) (.pointer (some ⟨tY,0,none⟩)) (.pointer (some ⟨xt,0,none⟩)) Z.drew:=⟨F,x1,x2⟩;have M:Cell1 ⟨y,1,none⟩ (.int .i64 (B:Nat)) Z.drew:=I;refine Plan.of [0,1,2,3,4,5,6,7,8,9,10,11,12,13,14,15,16,17,18,19,22,23,24,25,26,27,28,29,30,31,32,33,20,21,34,35,36] ?_
     iterate 32
      first
       |(
        refine AnyE.tp (v:=?_) (by rfl) (by kernel_rfl) (by kernel_rfl) (by kernel_rfl) (by kernel_rfl) (by exact fun _ _ _ h=>h) (fun _=>hS) M (Or.inl ⟨by rfl,?_⟩) ?_
        rotate_left
        (focus(intro wq z;have bj:_=_:=z;clear z;first|(go_simp;done)|(go_simp;with_reducible rfl))))
       |(
        refine AnyE.sp (v:=?_) (by rfl) (by kernel_rfl) (by kernel_rfl) (by kernel_rfl) (by kernel_rfl) (by kernel_rfl) (by exact fun _ _ _ h=>h) hS M (Or.inl ⟨by rfl,?_⟩) ?_
        rotate_left
        (focus(intro wq z;obtain⟨bk,bl,bm⟩:=z;first|(go_simp;done)|(go_simp;with_reducible rfl))))
      (try simp only[Act.put,List.setIfInBounds_toArray,List.set_cons_zero,List.set_cons_succ])
     refine AnyE.op (by kernel_rfl) (by rfl) (fun KK H=>?_);go_simp;apply cM;apply RBag.mul (w0:=Z);(first|exact f.o|exact f.o.drew);(focus(repeat(first|exact mH|apply mT)));(focus(repeat(first|exact mH|apply mT)));omega;rintro e w3 ⟨b3,rfl,n⟩;clear f hS M;have f:=Hi n;clear n F x1 x2 I;obtain⟨F,x1⟩:=Ja f.o.base U Q.o ad.o;have x2:=ce f.o.base W ae.o;have I:=ce f.o.base aa al.o;refine H.out _ _ ⟨fun _ _=>⟨F,x1,x2⟩,I⟩ ?_;clear H KK;(try simp only[Act.put,List.setIfInBounds_toArray,List.set_cons_zero,List.set_cons_succ])
     have hS:Cells3 ⟨g,X2,none⟩ ⟨g,Y2,none⟩ ⟨pb,po+k,none⟩ (.pointer (some ⟨tX,0,none⟩)) (.pointer (some ⟨tY,0,none⟩)) (.pointer (some ⟨xt,0,none⟩)) w3:=⟨F,x1,x2⟩;have M:Cell1 ⟨y,1,none⟩ (.int .i64 (B:Nat)) w3:=I;refine AnyE.op (by kernel_rfl) (by rfl) (fun KK H=>?_);go_simp;apply cM;apply RBag.sub (w0:=Z);(first|exact f.o|exact f.o.drew);(focus(repeat(first|exact mH|apply mT)));(focus(repeat(first|exact mH|apply mT)));omega;rintro e w4 ⟨b4,rfl,n⟩;clear f hS M;have f:=Hi n;clear n F x1 x2 I;obtain⟨F,x1⟩:=Ja f.o.base U Q.o ad.o;have x2:=ce f.o.base W ae.o;have I:=ce f.o.base aa al.o;refine H.out _ _ ⟨fun _ _=>⟨F,x1,x2⟩,I⟩ ?_;clear H KK
     (try simp only[Act.put,List.setIfInBounds_toArray,List.set_cons_zero,List.set_cons_succ]);have hS:Cells3 ⟨g,X2,none⟩ ⟨g,Y2,none⟩ ⟨pb,po+k,none⟩ (.pointer (some ⟨tX,0,none⟩)) (.pointer (some ⟨tY,0,none⟩)) (.pointer (some ⟨xt,0,none⟩)) w4:=⟨F,x1,x2⟩;have M:Cell1 ⟨y,1,none⟩ (.int .i64 (B:Nat)) w4:=I;refine AnyE.op (by kernel_rfl) (by rfl) (fun KK H=>?_);go_simp;apply cM;apply RBag.mul (w0:=Z);(first|exact f.o|exact f.o.drew);(focus(repeat(first|exact mH|apply mT)));(focus(repeat(first|exact mH|apply mT)));omega;rintro e w5 ⟨b5,rfl,n⟩;clear f hS M;have f:=Hi n;clear n F x1 x2 I;obtain⟨F,x1⟩:=Ja f.o.base U Q.o ad.o;have x2:=ce f.o.base W ae.o
     have I:=ce f.o.base aa al.o;refine H.out _ _ ⟨fun _ _=>⟨F,x1,x2⟩,I⟩ ?_;clear H KK;(try simp only[Act.put,List.setIfInBounds_toArray,List.set_cons_zero,List.set_cons_succ]);have hS:Cells3 ⟨g,X2,none⟩ ⟨g,Y2,none⟩ ⟨pb,po+k,none⟩ (.pointer (some ⟨tX,0,none⟩)) (.pointer (some ⟨tY,0,none⟩)) (.pointer (some ⟨xt,0,none⟩)) w5:=⟨F,x1,x2⟩;have M:Cell1 ⟨y,1,none⟩ (.int .i64 (B:Nat)) w5:=I;refine AnyE.op (by kernel_rfl) (by rfl) (fun KK H=>?_);go_simp;apply cM;apply RBag.sub (w0:=Z);(first|exact f.o|exact f.o.drew);(focus(repeat(first|exact mH|apply mT)));(focus(repeat(first|exact mH|apply mT)));omega;rintro e w6 ⟨b6,rfl,n⟩;clear f hS M;have f:=Hi n;clear n F x1 x2 I;have F:=ce f.o.base U Q.o
     have x1:=ce f.o.base U ad.o;have x2:=ce f.o.base W ae.o;have I:=ce f.o.base aa al.o;refine H.out _ _ ⟨fun _ _=>⟨F,x1,x2⟩,I⟩ ?_;clear H KK;(try simp only[Act.put,List.setIfInBounds_toArray,List.set_cons_zero,List.set_cons_succ]);have hS:Cells3 ⟨g,X2,none⟩ ⟨g,Y2,none⟩ ⟨pb,po+k,none⟩ (.pointer (some ⟨tX,0,none⟩)) (.pointer (some ⟨tY,0,none⟩)) (.pointer (some ⟨xt,0,none⟩)) w6:=⟨F,x1,x2⟩;have M:Cell1 ⟨y,1,none⟩ (.int .i64 (B:Nat)) w6:=I
     first
      |(
       refine AnyE.tp (v:=?_) (by rfl) (by kernel_rfl) (by kernel_rfl) (by kernel_rfl) (by kernel_rfl) (by exact fun _ _ _ h=>h) (fun _=>hS) M (Or.inl ⟨by rfl,?_⟩) ?_
       rotate_left
       (focus(intro wq z;have bj:_=_:=z;clear z;first|(go_simp;done)|(go_simp;with_reducible rfl))))
      |(
       refine AnyE.sp (v:=?_) (by rfl) (by kernel_rfl) (by kernel_rfl) (by kernel_rfl) (by kernel_rfl) (by kernel_rfl) (by exact fun _ _ _ h=>h) hS M (Or.inl ⟨by rfl,?_⟩) ?_
       rotate_left
       (focus(intro wq z;obtain⟨bk,bl,bm⟩:=z;first|(go_simp;done)|(go_simp;with_reducible rfl))))
     (try simp only[Act.put,List.setIfInBounds_toArray,List.set_cons_zero,List.set_cons_succ]);refine Plan.done ?_;have am:=G.o.below f.o.base;have m4:=f.o.ts (b4,_,_) (List.Mem.tail _ (List.Mem.tail _ (List.Mem.head _)));have m6:=f.o.ts (b6,_,_) (List.Mem.head _);have f0:=am.blk.blk.free X2;have af:=(am.mono (K':=(KM+C)+C) (by omega)).set cc m4.1 (m4.2.1.mono (by simp only;omega)) (by omega) (Nat.le_refl ((KM+C)+C));obtain⟨Z1,ag⟩:=nm (w6.setCell ⟨g,X2,none⟩ (.pointer (some ⟨b4,0,none⟩)));rw[ag] at af;have f1:=af.blk.blk.free Y2;obtain⟨bY,kY,_,y1,_⟩:=af.get bi;have a5:Only g w6 Z1:=by rw[<-ag];exact(Only.refl g w6).setCell _ _
     have a6:=(L.o.below f.o.base L.o.lt).only a5 be;have a7:Z1.cell? ⟨y,1,none⟩=some (.int .i64 (B:Nat)):=a6.cell 1;have v6:=m6.1.pv G.o f.o.base ag;obtain⟨Z2,ai⟩:=nm (Z1.setCell ⟨g,Y2,none⟩ (.pointer (some ⟨b6,0,none⟩)));have a8:=af.set bi v6 (m6.2.1.mono (by simp only;omega)) (by omega) (Nat.le_refl ((KM+C)+C));rw[ai] at a8;have bz:=Hi a8;have bn:O (∀(c:Nat) (q:Rat),RatVal w6 c q->RatVal Z2 c q):=Hi (fun c q hc=>(hc.pv G.o f.o.base ag).pv af bR ai);have bq:O (Below V.heap.size V Z2):=Hi (by
      rw[<-ai]
      exact(((aj.o.trans (f.o.base.mono aj.o.size)).trans (a5.below (Nat.le_of_eq a0.o) (Nat.le_trans aj.o.size f.o.base.size)))).setCell (p:=⟨g,Y2,none⟩) (Nat.le_of_eq a0.o) _)
     have br:O (SB Z2 y 80 #[.int .i64 (A:Nat),.int .i64 (B:Nat),.string b.c,.string b.e,.string b.l,.string b.m]):=Hi (by
      rw[<-ai]
      exact a6.only ((Only.refl g Z1).setCell _ _) be)
     obtain⟨b0,b7,dc⟩:=Ib ag ai m4;clear am m4 m6 af a8 a5 a6 v6 ag ai;refine AnyE.one (i:=37) (by kernel_rfl) rfl (fun KK H=>?_);go_simp;rw[b0.o];refine H.out _ _ ⟨fun h=>absurd (by decide) h,a7⟩ ?_;clear H KK hS M F x1 x2 I f0;(try simp only[Act.put,List.setIfInBounds_toArray,List.set_cons_zero,List.set_cons_succ]);have M:Cell1 ⟨y,1,none⟩ (.int .i64 (B:Nat)) Z1:=a7;refine AnyE.takeT (i:=38) (v:=?_) rfl (by kernel_rfl) (by kernel_rfl) (by kernel_rfl) (by kernel_rfl) (fun _ _ _ h=>h) (Or.inl ⟨by rfl,?_⟩) (fun h=>absurd h (Qci (d:=37) (by rfl) (by rfl))) M ?_
     rotate_left
     .
      intro wq z;clear z
      first|(go_simp;done)|(go_simp;with_reducible rfl)
     (try simp only[Act.put,List.setIfInBounds_toArray,List.set_cons_zero,List.set_cons_succ]);have b8:O (Z2.cell? ⟨y,1,none⟩=some (.int .i64 (B:Nat))):=Hi (br.o.cell 1);refine AnyE.one (i:=39) (by kernel_rfl) rfl (fun KK H=>?_);go_simp;rw[b7.o];refine H.out _ _ ⟨fun h=>absurd (by decide) h,b8.o⟩ ?_;clear H KK M a7 f1 y1;(try simp only[Act.put,List.setIfInBounds_toArray,List.set_cons_zero,List.set_cons_succ]);refine AnyE.done (by kernel_rfl) ?_ _;have cr:O (PV Z2 V.heap.size g N (kF C (k+1)) (fun r=>dot (k+1) (balM vb P.length vh r) x) _):=Hi (by
      have h1:=bz.o;obtain⟨e1,e2,e3,e4⟩:=eh.o;have e9:=c6.o;have f1:E1 X2=E X2:=by rw[<-cq.o,Qad _ _ (by omega),Qad _ _ (by omega)]
      have f2:E1 Y2=E Y2:=by rw[<-cq.o,Qad _ _ (by omega),Qad _ _ (by omega)]
      rw[f1,f2,<-cq.o] at h1;have ei:=Qj5 C k;rw[eg.o] at ei;refine(h1.mono (by omega)).congr (fun r=>?_);have:=Qrx (vh:=vh) (nb:=P.length) (x:=x) ee.o c6.o (E:=E) (fun r=>by rw[<-HE.o]) r;simp only at this;rw[e2,e1,e4,e3] at this
      exact this)
     go_wp2;go_roundw
     case rel=>exact⟨k+1,_,by omega,by go_num,cr.o,bq.o⟩
     case measure=>simp[intOf];omega
    .
     obtain rfl:k=P.length:=by omega
     obtain⟨-,-,z2,-⟩:=zc (az.o.below K.o az.o.lt);go_wp2_with fail;clear z2;go_loopw [124] (fun iv wr=>∃(m:Nat) (ts:List RT),m<=hs.length/\iv=.int .i64 m/\PV wr V.heap.size g N (kF C (P.length+m)) (fun r=>dot (P.length+m) (balM vb P.length vh r) x) ts/\Below V.heap.size V wr) (fun iv _=>hs.length - (intOf iv).toNat)
     case atStart=>exact⟨0,ts,Nat.zero_le _,rfl,G.o,K.o⟩
     case round=>
      clear G K ar;obtain⟨m,ts,hm,rfl,u,ao⟩:=hrel;obtain⟨G,K,ar⟩:=Ib u ao (aq.o.trans (ao.mono aq.o.size));clear u ao;by_cases ej:m<hs.length
      .
       obtain⟨h,b9⟩:∃h,hs[m]?=some h:=⟨_,gE ej⟩;obtain⟨R0,cs⟩:∃r,vh[m]?=some r:=⟨vh[m]'(by have:=HV.o.lh;omega),gE _⟩;obtain⟨J,hJ,ek,ct⟩:=(HV.o.vh m h R0 b9 cs).ex;obtain⟨bb,bo,rfl,ea,d0,d1,d2⟩:=(HF.o.h.below ar.o).hold b9;obtain⟨WW,de,df,em⟩:∃WW:Nat,h.w=(WW:Int)/\(WW=1∨WW=2)/\R0+1=2*J+WW:=by
        rcases HW.o m h b9 with e|e
        . exact⟨1,by rw[e];rfl,.inl rfl,by rw[ct,if_pos e]⟩
        . exact⟨2,by rw[e];rfl,.inr rfl,by rw[ct,if_neg (by omega)]⟩
       rw[hJ] at d0;rw[de] at d1;obtain⟨J2,en⟩:=nm (2*J);obtain⟨S1,eo⟩:=nm (J2+WW);have w1:IntKind.i64.wrap (2*(J:Int))=(J2:Int):=by rw[wrap_i64 _ (by omega) (by omega)];omega
       have w2:IntKind.i64.wrap ((J2:Int)+(WW:Int))=(S1:Int):=by rw[wrap_i64 _ (by omega) (by omega)];omega
       have w3:IntKind.i64.wrap ((S1:Int) - 1)=(R0:Int):=by rw[wrap_i64 _ (by omega) (by omega)];omega
       have dg:R0<N:=by have:=ba.o;omega
       have iR:(R0:Int)<(N:Int):=by omega
       have q1:((m:Int)<(hs.length:Int)):=by omega
       obtain⟨y,ak⟩:=nm wr.heap.size;obtain⟨Z,ap⟩:=nm (wr.alloc (.cells #[.int .i64 (J:Nat),.int .i64 (WW:Nat),.string h.q] 83));have au:=Ua ap;have L:=Uf ap ak;have aj:=Hi (K.o.trans (au.o.mono K.o.size));have R:=ar.o.trans (au.o.mono ar.o.size);obtain⟨⟨xt,tq,tk⟩,av⟩:∃t,th[m]?=some t:=⟨th[m]'(by have:=dl.o;omega),gE _⟩;obtain⟨bg,aw⟩:=dn.o m _ av;simp only at bg aw;subst bg;obtain⟨pb,po,rfl,a4,dh⟩:=HH.o.at av;have x3:=ce R a4 dh;have W:=Nat.lt_of_lt_of_le a4 R.size;have ax:=(HH.o.below R).vs _ (mO av);have u:=G.o.below au.o
       obtain⟨E,hE⟩:∃E:Vec,(fun r=>dot (P.length+m) (balM vb P.length vh r) x)=E:=⟨_,rfl⟩;rw[hE] at u;obtain⟨KM,ay⟩:=nm (kF C (P.length+m));rw[ay] at u;have ef:KM<=88*C+1:=by rw[<-ay];exact kF_le (by omega)
       have di:kF C (P.length+(m+1))=KM+2*C:=by rw[<-ay];exact Qj5 C (P.length+m)
       obtain⟨tX,kX,_,x2,vX,fX,gX⟩:=u.get dg;obtain⟨F,x1,-⟩:=zc L.o;have U:=u.blk.blk.lt;have aa:=L.o.lt;obtain⟨Q,ad,ae,ep⟩:=Ic F x1 x2 x3;have f:O (RBag Z Z [(xt,x (P.length+m),KX),(tX,E R0,KM)]):=Hi (((HG.o.below R).rebase.put vX fX gX).put ax.1 (ax.2.1.mono aw) (Nat.lt_of_lt_of_le ax.2.2 aw));clear G;obtain⟨G,HE,eq,er,es,cl⟩:=Ie u hE di cs ap ak;clear b9 cs hJ ek ct de df em en eo ak ap R av aw dh ax u hE ay di vX fX gX;go_wp2_with fail;rw[es.o];simp only[cl.o];clear d0 d1 d2
       refine AnyBut.begin (S:=Cells4 ⟨y,0,none⟩ ⟨y,1,none⟩ ⟨g,R0,none⟩ ⟨pb,po+m,none⟩ (.int .i64 (J:Nat)) (.int .i64 (WW:Nat)) (.pointer (some ⟨tX,0,none⟩)) (.pointer (some ⟨xt,0,none⟩))) (k:=24) (by kernel_rfl) ?_;have an:Cells4 ⟨y,0,none⟩ ⟨y,1,none⟩ ⟨g,R0,none⟩ ⟨pb,po+m,none⟩ (.int .i64 (J:Nat)) (.int .i64 (WW:Nat)) (.pointer (some ⟨tX,0,none⟩)) (.pointer (some ⟨xt,0,none⟩)) Z.drew:=⟨F,x1,x2,x3⟩;refine Plan.of [0,1,2,3,4,5,6,7,8,9,10,11,12,13,14,15,16,17,18,19,20,21,22,23,24] ?_
       iterate 22
        refine AnyBut.bp (v:=?_) (by rfl) (by kernel_rfl) (by kernel_rfl) (by kernel_rfl) (by kernel_rfl) (by exact fun _ _ _ h=>h) an (Or.inl ⟨by rfl,?_⟩) ?_
        rotate_left 1
        (focus(intro wq z;obtain⟨bk,bl,bm,et⟩:=z;first|(go_simp;done)|(go_simp;with_reducible rfl)));(try simp only[Act.put,List.setIfInBounds_toArray,List.set_cons_zero,List.set_cons_succ])
       clear an;refine AnyBut.op (by kernel_rfl) (by rfl) (fun KK H=>?_);go_simp;apply cM;apply RBag.add (w0:=Z);exact f.o.drew;(focus(repeat(first|exact mH|apply mT)));(focus(repeat(first|exact mH|apply mT)));omega;rintro e wn ⟨nb,rfl,n⟩;obtain⟨bu,dj⟩:=Ia n.base (n.ts _ (List.Mem.head _));clear F x1 x2 x3 n;obtain⟨F,x1⟩:=Ja bu.o aa Q.o ad.o;have x2:=ce bu.o U ae.o;have x3:=ce bu.o W ep.o;have am:=G.o.below bu.o;have f0:=am.blk.blk.free R0;have eu:=Hi am;clear am;refine H.out _ _ (fun _=>⟨F,x1,x2,x3⟩) ?_;clear H KK;(try simp only[Act.put,List.setIfInBounds_toArray,List.set_cons_zero,List.set_cons_succ])
       have an:Cells4 ⟨y,0,none⟩ ⟨y,1,none⟩ ⟨g,R0,none⟩ ⟨pb,po+m,none⟩ (.int .i64 (J:Nat)) (.int .i64 (WW:Nat)) (.pointer (some ⟨tX,0,none⟩)) (.pointer (some ⟨xt,0,none⟩)) wn:=⟨F,x1,x2,x3⟩;refine AnyBut.bp (v:=?_) (by rfl) (by kernel_rfl) (by kernel_rfl) (by kernel_rfl) (by kernel_rfl) (by exact fun _ _ _ h=>h) an (Or.inl ⟨by rfl,?_⟩) ?_
       rotate_left 1
       (focus(intro wq z;obtain⟨bk,bl,bm,et⟩:=z;first|(go_simp;done)|(go_simp;with_reducible rfl)));(try simp only[Act.put,List.setIfInBounds_toArray,List.set_cons_zero,List.set_cons_succ]);clear an;refine AnyBut.op (by kernel_rfl) (by rfl) (fun KK H=>?_);go_simp;refine H.out _ _ (fun h=>absurd rfl h) ?_;clear H KK;(try simp only[Act.put,List.setIfInBounds_toArray,List.set_cons_zero,List.set_cons_succ]);refine Plan.done (AnyBut.done (by kernel_rfl) ?_ _);clear F x1 x2 x3 f0;have cr:O (PV (wn.setCell ⟨g,R0,none⟩ (.pointer (some ⟨nb,0,none⟩))) V.heap.size g N (kF C (P.length+(m+1))) (fun r=>dot (P.length+(m+1)) (balM vb P.length vh r) x) _):=Hi (by
        rw[eq.o]
        exact((eu.o.mono (K':=KM+2*C) (by omega)).set dg dj.o.1 (dj.o.2.1.mono (by simp only;omega)) (by omega) lZ).congr (fun r=>Qry HV.o.lb er.o (fun r=>by rw[<-HE.o]) r))
       go_wp2;go_roundw
       case rel=>exact⟨m+1,_,by omega,by go_num,cr.o,(aj.o.trans (bu.o.mono aj.o.size)).setCell (p:=⟨g,R0,none⟩) (Nat.le_of_eq a0.o) _⟩
       case measure=>simp[intOf];omega
      .
       obtain rfl:m=hs.length:=by omega
       go_wp2;go_ret;refine⟨N,g,ts,ba.o.symm,rfl,?_,ar.o⟩;have h1:=G.o;exact⟨h1.blk,Nat.le_trans aq.o.size h1.low,h1.len,fun i t ht=>⟨(h1.q i t ht).1,Nat.le_trans (h1.q i t ht).2 (Nat.le_trans (kF_le (by omega)) (by omega))⟩⟩
end Go.Proofs.YtppkmifkpjkgpaaGreatDoor
