import Derived.Test.YtppkmifkpjkgpaaGreatDoorE18KerA
namespace Go.Proofs.YtppkmifkpjkgpaaGreatDoor
open Go.RowKit
open Go.Proofs.Tryz
set_option linter.unusedSimpArgs false
set_option linter.unusedVariables false
set_option maxHeartbeats 8000000
set_option maxRecDepth 1000000
theorem Qst{a:List (Nat × Nat × Rat × Rat)}{vh:Vy}{nb k:Nat}{p:Nat × Nat × Rat × Rat}{E x:Vec}(f:a[k]?=some p)(g:p.1≠p.2.1)(h:∀r,E r=dot k (balM a nb vh r) x)(r:Nat):
 upd (upd (upd (upd E (2*p.1) (E (2*p.1)+x k*p.2.2.1)) (2*p.1+1) (E (2*p.1+1)+x k*p.2.2.2)) (2*p.2.1) (E (2*p.2.1) - x k*p.2.2.1)) (2*p.2.1+1) (E (2*p.2.1+1) - x k*p.2.2.2) r=dot (k+1) (balM a nb vh r) x:=by
 have i:balM a nb vh r k=barAt p r:=by simp only[balM,f]
 simp only[dot];rw[<-h r,i];unfold barAt;by_cases b:r=2*p.2.1+1
 . rw[b,Qan,if_neg (by omega),if_neg (by omega),if_neg (by omega),if_pos rfl]
   grind
 rw[Qad _ _ b];by_cases c:r=2*p.2.1
 . rw[c,Qan,if_neg (by omega),if_pos rfl]
   grind
 rw[Qad _ _ c];by_cases d:r=2*p.1+1
 . rw[d,Qan,if_neg (by omega),if_neg (by omega),if_pos rfl]
   grind
 rw[Qad _ _ d];by_cases e:r=2*p.1
 . rw[e,Qan,if_pos rfl]
   grind
 rw[Qad _ _ e,if_neg e,if_neg c,if_neg d,if_neg b];grind
theorem Qsu{a:List (Nat × Nat × Rat × Rat)}{vh:Vy}{nb m h:Nat}{E x:Vec}(f:a.length=nb)(b:vh[m]?=some h)(c:∀r,E r=dot (nb+m) (balM a nb vh r) x)(r:Nat):
 upd E h (E h+x (nb+m)) r=dot (nb+m+1) (balM a nb vh r) x:=by
 have d:balM a nb vh r (nb+m)=if r=h then 1 else 0:=by
  simp only[balM];rw[List.getElem?_eq_none (by omega),Nat.add_sub_cancel_left,b];simp
 simp only[dot];rw[<-c r,d];by_cases e:r=h
 . rw[e,Qan,if_pos rfl]
   grind
 . rw[Qad _ _ e,if_neg e]
   grind
theorem PV.congr{w:Vz}{B g n K:Nat}{x y:Vec}{b:List RT}(h:PV w B g n K x b)(a:∀i,x i=y i):PV w B g n K y b:=⟨h.blk,h.low,h.len,fun i t c=>by rw[<-a i];exact h.q i t c⟩
def Cells3(a b c:Addr)(x y z:Value)(v:Vz):Prop:=v.cell? a=some x/\v.cell? b=some y/\v.cell? c=some z
theorem cq3{a b c:Addr}{x y z:Value}(v:Vz)(d:v.cell? a=some x)(e:v.cell? b=some y)(f:v.cell? c=some z):Cells3 a b c x y z v:=⟨d,e,f⟩
def Cell1(a:Addr)(x:Value)(v:Vz):Prop:=v.cell? a=some x
theorem cq1{a:Addr}{x:Value}(v:Vz)(h:v.cell? a=some x):Cell1 a x v:=h
theorem RatVal.pv{w0 w w':Vz}{B g n K i b c:Nat}{x:Vec}{q:Rat}{a:List RT}(h:RatVal w b q)(d:PV w0 B g n K x a)(e:Bl w0 w)(f:w.setCell ⟨g,i,none⟩ (.pointer (some ⟨c,0,none⟩))=w'):RatVal w' b q:=by
 rw[<-f];exact h.fp (Fp.of_only ((Only.refl g w).setCell _ _) (d.below e).blk.blk (fun u j=>Qcm a u (by simpa using j)))
abbrev kF(C k:Nat):Nat:=k*(2*C)+1
theorem Qkj(C k:Nat):kF C (k+1)=kF C k+2*C:=by
 show (k+1)*(2*C)+1=k*(2*C)+1+2*C
 rw[Nat.add_mul];omega
theorem kF_le{C k:Nat}(hk:k<=44):kF C k<=88*C+1:=by
 have:=Nat.mul_le_mul_right (2*C) hk
 show k*(2*C)+1<=_
 omega
theorem Qsv(a1 a2 a3 ab ah:Vx)(c1 c2 c3 cb ch KX:Nat)(js:List S2)(M:List B6)(hs:List H3)(vb:List (Nat × Nat × Rat × Rat))(vh:Vy)(tb th:List RT)(x:Vec)(w:Vz)
 (hg:∃m,w.cell? ⟨4,0,none⟩=some (.int .i64 m)) (hf:FrRow w a1 a2 a3 c1 c2 c3 js M hs) (hv:FrV 1048576 js M hs vb vh) (hw:∀(i:Nat) (h:H3),hs[i]?=some h->h.w=1∨h.w=2)
 (hb:PRow w ab tb) (ct:tb.length=M.length) (hh:PRow w ah th) (cu:th.length=hs.length) (cv:∀(i:Nat) (t:RT),tb[i]?=some t->t.2.1=x i/\t.2.2<=KX) (cw:∀(i:Nat) (t:RT),th[i]?=some t->t.2.1=x (M.length+i)/\t.2.2<=KX) (ev:KX<=1000000000):
 Calls prog 51 #[.agg #[.slice a1 js.length c1,.slice a2 M.length c2,.slice a3 hs.length c3],.slice ab M.length cb,.slice ah hs.length ch] w fun e w'=>∃(N g:Nat) (ts:List RT),N=2*js.length/\e=.returned (.slice (some ⟨g,0,none⟩) N N)/\PV w' w.heap.size g N (88*(KX+8388612)+1) (fun r=>dot (M.length+hs.length) (balM vb M.length vh r) x) ts/\Below w.heap.size w w':=by
 have n1:=hv.j;have n2:=hv.b;have n3:=hv.h;obtain⟨HG,HF,HV,HW,HB,dj,HH,dk,dl⟩:=Ih (RBag.start hg) hf hv hw hb ct hh cu cv;have dm:=Hi cw;obtain⟨C,hC⟩:=nm (KX+8388612);have ew:C<=1008388612:=by omega
 obtain⟨N,hN⟩:=nm (2*js.length);have eN:IntKind.i64.wrap (2*(js.length:Int))=(N:Int):=by rw[wrap_i64 _ (by omega) (by omega)];omega
 have cx:=fun w=>Qjg N (by omega) w
 obtain⟨MC,cf⟩:=nm ((List.replicate N (Value.pointer none)).toArray);rw[cf] at cx;obtain⟨B0,be⟩:=nm w.heap.size;obtain⟨V,hV⟩:=nm (w.alloc (.cells #[.slice a1 js.length c1,.slice a2 M.length c2,.slice a3 hs.length c3] 26));have ao:=Ua hV;have ay:=Uf hV be;obtain⟨V1,bu⟩:=nm (V.alloc (.cells MC 84));obtain⟨g,bv⟩:=nm V.heap.size;have cy:=Ua bu;have dn:O (Noughts V1 g N 0 []):=Hi ⟨by rw[<-bu,<-bv,<-cf];exact SB.new V _ _,(fun t ht=>by cases ht),rfl,(fun t ht=>by cases ht)⟩;obtain⟨z0,-⟩:=zc ay.o
 have a9:=Hi hN;have eu:N<=20:=by omega
 obtain⟨dp,dq,az,dr⟩:=Ic hV bu bv be;have ds:O (B0+1=g):=Hi (by rw[<-bv,<-hV,<-be];simp);rw[<-hV,<-be] at z0;clear hg hf hv hw hb ct hh cu cv cw hN cf hV bu bv be;go_enter func51,ntmps51;go_wp2_with fail;rw[dp.o,dq.o];simp only[dr.o];rw[ds.o];clear z0 cx;go_loopw [22] (fun iv wr=>∃(k:Nat) (ts:List RT),k<=N/\iv=.int .i64 k/\Noughts wr g N k ts/\Below V.heap.size V wr) (fun iv _=>N - (intOf iv).toNat)
 case atStart=>exact⟨0,[],Nat.zero_le _,rfl,dn.o,cy.o⟩
 case round=>
  obtain⟨k,ts,hk,rfl,cz,am⟩:=hrel;obtain⟨cg,I⟩:=Ia cz am;clear cz am;by_cases dt:k<N
  .
   have q1:((k:Int)<(N:Int)):=by omega
   have du:=Hi (RBag.nought ((HG.o.below (ao.o.trans (I.o.mono ao.o.size))).rebase));go_wp2_with fail;go_fit du.o;rintro e w2 ⟨b,rfl,n⟩;have dv:=Hi n.base;have dw:=Hi (n.ts _ (List.Mem.head _)).1;have ba:=cg.o.below n.base;have f0:=ba.blk.free k;have t0:w2.cell? ⟨g,k,none⟩=some (.pointer none):=by
    rw[ba.blk.cell];have e:(ts.map ptrV++List.replicate (N - k) (Value.pointer none)).toArray[k]?=(ts.map ptrV++List.replicate (N - k) (Value.pointer none))[k]?:=by simp
    rw[e,List.getElem?_append_right (by rw[List.length_map,ba.len];exact Nat.le_refl _),List.length_map,ba.len,Nat.sub_self,List.getElem?_replicate,if_pos (by omega)]
   have dx:=Hi ba;clear n ba;go_wp2;go_roundw
   case rel=>exact⟨k+1,_,by omega,by go_num,dx.o.step dt dw.o,(I.o.trans (dv.o.mono I.o.size)).setCell (p:=⟨g,k,none⟩) (show V.heap.size<=g by have:=az.o;omega) _⟩
   case measure=>simp[intOf];omega
  .
   obtain rfl:N=k:=by omega
   have c0:=Hi (PV.of (B:=V.heap.size) cg.o (Nat.le_of_eq az.o));obtain⟨-,z1,-⟩:=zc (ay.o.below I.o ay.o.lt);go_wp2_with fail;clear z1;go_loopw [33] (fun iv wr=>∃(k:Nat) (ts:List RT),k<=M.length/\iv=.int .i64 k/\PV wr V.heap.size g N (kF C k) (fun r=>dot k (balM vb M.length vh r) x) ts/\Below V.heap.size V wr) (fun iv _=>M.length - (intOf iv).toNat)
   case atStart=>exact⟨0,ts,Nat.zero_le _,rfl,(c0.o.mono (by show 1<=0*(2*C)+1;omega)).congr (fun i=>rfl),I.o⟩
   case round=>
    clear cg I c0;obtain⟨k,ts,hk,rfl,u,am⟩:=hrel;obtain⟨F,I,ap⟩:=Ib u am (ao.o.trans (am.mono ao.o.size));clear u am;by_cases dy:k<M.length
    .
     obtain⟨b,bw⟩:∃b,M[k]?=some b:=⟨_,gE dy⟩;obtain⟨p,ci⟩:∃p,vb[k]?=some p:=⟨vb[k]'(by have:=HV.o.lb;omega),gE _⟩;have bc:=HV.o.vb k b p bw ci;obtain⟨bb,bo,rfl,dz,d0,d1,d2,d3,d4,d5⟩:=(HF.o.b.below ap.o).bar bw;obtain⟨A,B,rx,ry⟩:=p;have hA:=bc.a;have hB:=bc.b;have cj:=bc.ne;obtain⟨s,t,_,_,_,_,e1,e2,_⟩:=bc.ex;have ea:=(gZ e1).1;have eb:=(gZ e2).1;simp only at hA hB cj ea eb;rw[hA] at d0;rw[hB] at d1;have q1:((k:Int)<(M.length:Int)):=by omega
     obtain⟨aq,aj⟩:=nm wr.heap.size;obtain⟨X0,an⟩:=nm (wr.alloc (.cells #[.int .i64 (A:Nat),.int .i64 (B:Nat),.string b.c,.string b.e,.string b.l,.string b.m] 80));have ar:=Ua an;have c4:=Uf an aj;have a8:=Hi (ap.o.trans (ar.o.mono ap.o.size));obtain⟨z0,z1,z2,-⟩:=zc (ay.o.below (I.o.trans (ar.o.mono I.o.size)) ay.o.lt)
     obtain⟨ec,ed,c5,P,ck⟩:=Id (Qlw a1 (some ⟨bb,bo,none⟩) a3 c1 c2 c3 k js M hs b (A,B,rx,ry) X0 ((HG.o.below a8.o).glob) (HF.o.below a8.o) bw bc n1 n2) ci cj an aj;rw[<-an] at z0 z1 z2;clear bw ci bc hA hB cj e1 e2 an aj;go_wp2_with fail;rw[P.o];simp only[ck.o];clear z0 z1 z2 d0 d1 d2 d3 d4 d5;go_fit ec.o;rintro e Z ⟨b1,b2,rfl,n⟩;obtain⟨⟨xt,tq,tk⟩,au⟩:∃t,tb[k]?=some t:=⟨tb[k]'(by have:=dj.o;omega),gE _⟩;obtain⟨bf,av⟩:=dl.o k _ au;simp only at bf av;subst bf;have ai:O (Bl V Z):=Hi ((I.o.trans (ar.o.mono I.o.size)).trans (n.base.mono (Nat.le_trans I.o.size ar.o.size)));have Q:Bl w Z:=a8.o.trans (n.base.mono a8.o.size);have b9:=HB.o.below Q;obtain⟨pb,po,rfl,a0,cl⟩:=HB.o.at au
     have x2:=ce Q a0 cl;have S:=Nat.lt_of_lt_of_le a0 Q.size;have c6:=Hi cl;have aw:=b9.vs _ (mO au);have bg:O (RatVal Z xt (x k)/\Fits (x k) KX/\0<KX):=Hi ⟨aw.1,aw.2.1.mono av,Nat.lt_of_lt_of_le aw.2.2 av⟩;have u:=(F.o.below ar.o).below n.base;have L:=Hi (c4.o.below n.base c4.o.lt);obtain⟨E,hE⟩:∃E:Vec,(fun r=>dot k (balM vb M.length vh r) x)=E:=⟨_,rfl⟩;rw[hE] at u;obtain⟨KM,ax⟩:=nm (kF C k);rw[ax] at u;have ee:KM<=88*C+1:=by rw[<-ax];exact kF_le (by omega)
     obtain⟨ef,HE⟩:=Ia ax hE;clear F;have F:=Hi u;obtain⟨X,hX⟩:=nm (2*A);obtain⟨Y,hY⟩:=nm (2*A+1);obtain⟨X2,c7⟩:=nm (2*B);obtain⟨Y2,c8⟩:=nm (2*B+1);have wX:IntKind.i64.wrap (2*(A:Int))=(X:Int):=by rw[wrap_i64 _ (by omega) (by omega)];omega
     have wY:IntKind.i64.wrap ((X:Int)+1)=(Y:Int):=by rw[wrap_i64 _ (by omega) (by omega)];omega
     have ey:IntKind.i64.wrap (2*(B:Int))=(X2:Int):=by rw[wrap_i64 _ (by omega) (by omega)];omega
     have ez:IntKind.i64.wrap ((X2:Int)+1)=(Y2:Int):=by rw[wrap_i64 _ (by omega) (by omega)];omega
     have c9:X<N:=by have:=a9.o;omega
     have cm:Y<N:=by have:=a9.o;omega
     have ca:X2<N:=by have:=a9.o;omega
     have bh:Y2<N:=by have:=a9.o;omega
     have iX:(X:Int)<(N:Int):=by omega
     have iY:(Y:Int)<(N:Int):=by omega
     have e0:(X2:Int)<(N:Int):=by omega
     have e5:(Y2:Int)<(N:Int):=by omega
     have eg:O (2*A=X/\2*A+1=Y/\2*B=X2/\2*B+1=Y2):=Hi ⟨hX,hY,c7,c8⟩;obtain⟨tX,kX,_,z,vX,fX,gX⟩:=u.get c9;obtain⟨tY,kY,_,x1,vY,fY,gY⟩:=u.get cm;obtain⟨H,-⟩:=zc L.o;have T:=u.blk.blk.lt;have U:=L.o.lt;have bd:aq≠g:=L.o.unlike u.blk.blk (by decide);obtain⟨P,W,aa,ak⟩:=Ic z x1 x2 H;have f:O (RBag Z Z [(xt,x k,KX),(tX,E X,KM),(tY,E Y,KM),(b1,rx,8388611),(b2,ry,8388611)]):=Hi (((n.rebase.put vY fY gY).put vX fX gX).put bg.o.1 bg.o.2.1 bg.o.2.2);have da:O (RBag Z Z [(b1,rx,8388611),(b2,ry,8388611)]):=Hi n.rebase;clear n au av Q b9 aw u hE ax hX hY c7 c8 vX fX gX vY fY gY cl;go_wp2_with fail;have R:=cq3 Z.drew z x1 x2;have K:=cq1 Z.drew H;refine AnyE.beg (D:=[37,39]) (by kernel_rfl) R K ?_
     refine Plan.of [0,1,2,3,4,5,6,7,8,9,10,11,12,13,14,15,16,17,18,19,22,23,24,25,26,27,28,29,30,31,32,33,20,21,34,35,36] ?_
     iterate 32
      first
       |(
        refine AnyE.tp (v:=?_) (by rfl) (by kernel_rfl) (by kernel_rfl) (by kernel_rfl) (by kernel_rfl) (by exact fun _ _ _ h=>h) (fun _=>R) K (Or.inl ⟨by rfl,?_⟩) ?_
        rotate_left
        (focus(intro wq y;have bi:_=_:=y;clear y;first|(go_simp;done)|(go_simp;with_reducible rfl))))
       |(
        refine AnyE.sp (v:=?_) (by rfl) (by kernel_rfl) (by kernel_rfl) (by kernel_rfl) (by kernel_rfl) (by kernel_rfl) (by exact fun _ _ _ h=>h) R K (Or.inl ⟨by rfl,?_⟩) ?_
        rotate_left
        (focus(intro wq y;obtain⟨bj,bk,bl⟩:=y;first|(go_simp;done)|(go_simp;with_reducible rfl))))
      (try simp only[Act.put,sA,sB,sC])
     refine AnyE.op (by kernel_rfl) (by rfl) (fun KK G=>?_);go_simp;apply cM;apply RBag.mul (w0:=Z);(first|exact f.o|exact f.o.drew);repeat(first|exact mH|apply mT);omega;rintro e w3 ⟨b3,rfl,n⟩;clear f R K;have f:=Hi n;clear n z x1 x2 H;obtain⟨z,x1⟩:=Ja f.o.base T P.o W.o;have x2:=ce f.o.base S aa.o;have H:=ce f.o.base U ak.o;refine G.out _ _ ⟨fun _ _=>⟨z,x1,x2⟩,H⟩ ?_;clear G KK;(try simp only[Act.put,sA,sB,sC]);have R:=cq3 w3 z x1 x2;have K:=cq1 w3 H;refine AnyE.op (by kernel_rfl) (by rfl) (fun KK G=>?_);go_simp;apply cM
     apply RBag.add (w0:=Z);(first|exact f.o|exact f.o.drew);repeat(first|exact mH|apply mT);omega;rintro e w4 ⟨b4,rfl,n⟩;clear f R K;have f:=Hi n;clear n z x1 x2 H;obtain⟨z,x1⟩:=Ja f.o.base T P.o W.o;have x2:=ce f.o.base S aa.o;have H:=ce f.o.base U ak.o;refine G.out _ _ ⟨fun _ _=>⟨z,x1,x2⟩,H⟩ ?_;clear G KK;(try simp only[Act.put,sA,sB,sC]);have R:=cq3 w4 z x1 x2;have K:=cq1 w4 H;refine AnyE.op (by kernel_rfl) (by rfl) (fun KK G=>?_);go_simp;apply cM;apply RBag.mul (w0:=Z);(first|exact f.o|exact f.o.drew)
     repeat(first|exact mH|apply mT);omega;rintro e w5 ⟨b5,rfl,n⟩;clear f R K;have f:=Hi n;clear n z x1 x2 H;obtain⟨z,x1⟩:=Ja f.o.base T P.o W.o;have x2:=ce f.o.base S aa.o;have H:=ce f.o.base U ak.o;refine G.out _ _ ⟨fun _ _=>⟨z,x1,x2⟩,H⟩ ?_;clear G KK;(try simp only[Act.put,sA,sB,sC]);have R:=cq3 w5 z x1 x2;have K:=cq1 w5 H;refine AnyE.op (by kernel_rfl) (by rfl) (fun KK G=>?_);go_simp;apply cM;apply RBag.add (w0:=Z);(first|exact f.o|exact f.o.drew);repeat(first|exact mH|apply mT)
     repeat(first|exact mH|apply mT);omega;rintro e w6 ⟨b6,rfl,n⟩;clear f R K;have f:=Hi n;clear n z x1 x2 H;obtain⟨z,x1⟩:=Ja f.o.base T P.o W.o;have x2:=ce f.o.base S aa.o;have H:=ce f.o.base U ak.o;refine G.out _ _ ⟨fun _ _=>⟨z,x1,x2⟩,H⟩ ?_;clear G KK;(try simp only[Act.put,sA,sB,sC]);have R:=cq3 w6 z x1 x2;have K:=cq1 w6 H
     first
      |(
       refine AnyE.tp (v:=?_) (by rfl) (by kernel_rfl) (by kernel_rfl) (by kernel_rfl) (by kernel_rfl) (by exact fun _ _ _ h=>h) (fun _=>R) K (Or.inl ⟨by rfl,?_⟩) ?_
       rotate_left
       (focus(intro wq y;have bi:_=_:=y;clear y;first|(go_simp;done)|(go_simp;with_reducible rfl))))
      |(
       refine AnyE.sp (v:=?_) (by rfl) (by kernel_rfl) (by kernel_rfl) (by kernel_rfl) (by kernel_rfl) (by kernel_rfl) (by exact fun _ _ _ h=>h) R K (Or.inl ⟨by rfl,?_⟩) ?_
       rotate_left
       (focus(intro wq y;obtain⟨bj,bk,bl⟩:=y;first|(go_simp;done)|(go_simp;with_reducible rfl))))
     (try simp only[Act.put,sA,sB,sC]);refine Plan.done ?_;have al:=F.o.below f.o.base;have m4:=f.o.ts (b4,_,_) (List.Mem.tail _ (List.Mem.tail _ (List.Mem.head _)));have m6:=f.o.ts (b6,_,_) (List.Mem.head _);have f0:=al.blk.blk.free X;have ad:=(al.mono (K':=KM+C) (by omega)).set c9 m4.1 (m4.2.1.mono (by simp only;omega)) (by omega) (Nat.le_refl (KM+C));obtain⟨Z1,ae⟩:=nm (w6.setCell ⟨g,X,none⟩ (.pointer (some ⟨b4,0,none⟩)));rw[ae] at ad;have f1:=ad.blk.blk.free Y;obtain⟨bY,kY,_,y1,_⟩:=ad.get cm;have a4:Only g w6 Z1:=by rw[<-ae];exact(Only.refl g w6).setCell _ _
     have a5:=(L.o.below f.o.base L.o.lt).only a4 bd;have a6:Z1.cell? ⟨aq,0,none⟩=some (.int .i64 (A:Nat)):=a5.cell 0;have v6:=m6.1.pv F.o f.o.base ae;obtain⟨Z2,af⟩:=nm (Z1.setCell ⟨g,Y,none⟩ (.pointer (some ⟨b6,0,none⟩)));have a7:=ad.set cm v6 (m6.2.1.mono (by simp only;omega)) (by omega) (Nat.le_refl (KM+C));rw[af] at a7;have bx:=Hi a7;have bm:O (∀(c:Nat) (q:Rat),RatVal w6 c q->RatVal Z2 c q):=Hi (fun c q hc=>(hc.pv F.o f.o.base ae).pv ad bR af);have bn:O (Bl V Z2):=Hi (by
      rw[<-af]
      exact(((ai.o.trans (f.o.base.mono ai.o.size)).trans (a4.below (Nat.le_of_eq az.o) (Nat.le_trans ai.o.size f.o.base.size)))).setCell (p:=⟨g,Y,none⟩) (Nat.le_of_eq az.o) _)
     have bq:O (SB Z2 aq 80 #[.int .i64 (A:Nat),.int .i64 (B:Nat),.string b.c,.string b.e,.string b.l,.string b.m]):=Hi (by
      rw[<-af]
      exact a5.only ((Only.refl g Z1).setCell _ _) bd)
     obtain⟨bz,b0,db⟩:=Ib ae af m4;clear al m4 m6 ad a7 a4 a5 v6 ae af;refine AnyE.one (i:=37) (by kernel_rfl) rfl (fun KK G=>?_);go_simp;rw[bz.o];refine G.out _ _ ⟨fun h=>absurd (by decide) h,a6⟩ ?_;clear G KK R K z x1 x2 H f0;(try simp only[Act.put,sA,sB,sC]);have K:=cq1 Z1 a6;refine AnyE.takeT (i:=38) (v:=?_) rfl (by kernel_rfl) (by kernel_rfl) (by kernel_rfl) (by kernel_rfl) (fun _ _ _ h=>h) (Or.inl ⟨by rfl,?_⟩) (fun h=>absurd h (Qcl (d:=37) (by rfl) (by rfl))) K ?_
     rotate_left
     .
      intro wq y;clear y
      first|(go_simp;done)|(go_simp;with_reducible rfl)
     (try simp only[Act.put,sA,sB,sC]);have b7:O (Z2.cell? ⟨aq,0,none⟩=some (.int .i64 (A:Nat))):=Hi (bq.o.cell 0);refine AnyE.one (i:=39) (by kernel_rfl) rfl (fun KK G=>?_);go_simp;rw[b0.o];refine G.out _ _ ⟨fun h=>absurd (by decide) h,b7.o⟩ ?_;clear G KK K a6 f1 y1;(try simp only[Act.put,sA,sB,sC]);refine AnyE.done (by kernel_rfl) ?_ _;have dc:=bm.o xt _ (f.o.ts (xt,_,_) (List.Mem.tail _ (List.Mem.tail _ (List.Mem.tail _ (List.Mem.tail _ (List.Mem.head _)))))).1;have cc:=bm.o b1 _ (f.o.ts (b1,_,_) (List.Mem.tail _ (List.Mem.tail _ (List.Mem.tail _ (List.Mem.tail _ (List.Mem.tail _ (List.Mem.tail _ (List.Mem.tail _ (List.Mem.head _))))))))).1
     have cd:=bm.o b2 _ (f.o.ts (b2,_,_) (List.Mem.tail _ (List.Mem.tail _ (List.Mem.tail _ (List.Mem.tail _ (List.Mem.tail _ (List.Mem.tail _ (List.Mem.tail _ (List.Mem.tail _ (List.Mem.head _)))))))))).1;obtain⟨E1,cn⟩:∃E1:Vec,upd (upd E X (E X+x k*rx)) Y (E Y+x k*ry)=E1:=⟨_,rfl⟩;have u:=bx.o;rw[cn] at u;have Q:Bl w Z2:=ao.o.trans (bn.o.mono ao.o.size);have x2:=ce Q a0 c6.o;clear f F P W aa ak ai L T S U bd bz b0 db bm b7;obtain⟨Z,br⟩:=nm Z2;subst br;have S:=Nat.lt_of_lt_of_le a0 Q.size;obtain⟨tX,e6,_,z,vX,fX,gX⟩:=u.get ca;obtain⟨tY,e7,_,x1,vY,fY,gY⟩:=u.get bh;have L:=bq;have ai:=bn;obtain⟨-,H,-⟩:=zc L.o;have T:=u.blk.blk.lt;have U:=L.o.lt;have bd:aq≠g:=L.o.unlike u.blk.blk (by decide)
     obtain⟨P,W,aa,ak⟩:=Ic z x1 x2 H;have f:O (RBag Z2 Z2 [(xt,x k,KX),(tX,E1 X2,KM+C),(tY,E1 Y2,KM+C),(b1,rx,8388611),(b2,ry,8388611)]):=Hi ((((((HG.o.below Q).rebase.put cd (da.o.ts _ (List.Mem.tail _ (List.Mem.head _))).2.1 (show 0<8388611 by decide)).put cc (da.o.ts _ (List.Mem.head _)).2.1 (show 0<8388611 by decide)).put vY fY gY).put vX fX gX).put dc bg.o.2.1 bg.o.2.2);obtain⟨F,cp⟩:=Ia u cn;obtain⟨Z,br⟩:=nm Z2;rw[br] at z x1 x2 H P W aa ak f F L ai T U S;rw[br];clear bx bn bq dc cc cd cn u Q vX fX gX vY fY gY br Z2;go_wp2_with fail;have R:=cq3 Z.drew z x1 x2;have K:=cq1 Z.drew H;refine AnyE.beg (D:=[37,39]) (by kernel_rfl) R K ?_;refine Plan.of [0,1,2,3,4,5,6,7,8,9,10,11,12,13,14,15,16,17,18,19,22,23,24,25,26,27,28,29,30,31,32,33,20,21,34,35,36] ?_
     iterate 32
      first
       |(
        refine AnyE.tp (v:=?_) (by rfl) (by kernel_rfl) (by kernel_rfl) (by kernel_rfl) (by kernel_rfl) (by exact fun _ _ _ h=>h) (fun _=>R) K (Or.inl ⟨by rfl,?_⟩) ?_
        rotate_left
        (focus(intro wq y;have bi:_=_:=y;clear y;first|(go_simp;done)|(go_simp;with_reducible rfl))))
       |(
        refine AnyE.sp (v:=?_) (by rfl) (by kernel_rfl) (by kernel_rfl) (by kernel_rfl) (by kernel_rfl) (by kernel_rfl) (by exact fun _ _ _ h=>h) R K (Or.inl ⟨by rfl,?_⟩) ?_
        rotate_left
        (focus(intro wq y;obtain⟨bj,bk,bl⟩:=y;first|(go_simp;done)|(go_simp;with_reducible rfl))))
      (try simp only[Act.put,sA,sB,sC])
     refine AnyE.op (by kernel_rfl) (by rfl) (fun KK G=>?_);go_simp;apply cM;apply RBag.mul (w0:=Z);(first|exact f.o|exact f.o.drew);repeat(first|exact mH|apply mT);omega;rintro e w3 ⟨b3,rfl,n⟩;clear f R K;have f:=Hi n;clear n z x1 x2 H;obtain⟨z,x1⟩:=Ja f.o.base T P.o W.o;have x2:=ce f.o.base S aa.o;have H:=ce f.o.base U ak.o;refine G.out _ _ ⟨fun _ _=>⟨z,x1,x2⟩,H⟩ ?_;clear G KK;(try simp only[Act.put,sA,sB,sC]);have R:=cq3 w3 z x1 x2;have K:=cq1 w3 H;refine AnyE.op (by kernel_rfl) (by rfl) (fun KK G=>?_);go_simp;apply cM
     apply RBag.sub (w0:=Z);(first|exact f.o|exact f.o.drew);repeat(first|exact mH|apply mT);omega;rintro e w4 ⟨b4,rfl,n⟩;clear f R K;have f:=Hi n;clear n z x1 x2 H;obtain⟨z,x1⟩:=Ja f.o.base T P.o W.o;have x2:=ce f.o.base S aa.o;have H:=ce f.o.base U ak.o;refine G.out _ _ ⟨fun _ _=>⟨z,x1,x2⟩,H⟩ ?_;clear G KK;(try simp only[Act.put,sA,sB,sC]);have R:=cq3 w4 z x1 x2;have K:=cq1 w4 H;refine AnyE.op (by kernel_rfl) (by rfl) (fun KK G=>?_);go_simp;apply cM;apply RBag.mul (w0:=Z);(first|exact f.o|exact f.o.drew)
     repeat(first|exact mH|apply mT);omega;rintro e w5 ⟨b5,rfl,n⟩;clear f R K;have f:=Hi n;clear n z x1 x2 H;obtain⟨z,x1⟩:=Ja f.o.base T P.o W.o;have x2:=ce f.o.base S aa.o;have H:=ce f.o.base U ak.o;refine G.out _ _ ⟨fun _ _=>⟨z,x1,x2⟩,H⟩ ?_;clear G KK;(try simp only[Act.put,sA,sB,sC]);have R:=cq3 w5 z x1 x2;have K:=cq1 w5 H;refine AnyE.op (by kernel_rfl) (by rfl) (fun KK G=>?_);go_simp;apply cM;apply RBag.sub (w0:=Z);(first|exact f.o|exact f.o.drew);repeat(first|exact mH|apply mT)
     repeat(first|exact mH|apply mT);omega;rintro e w6 ⟨b6,rfl,n⟩;clear f R K;have f:=Hi n;clear n z x1 x2 H;obtain⟨z,x1⟩:=Ja f.o.base T P.o W.o;have x2:=ce f.o.base S aa.o;have H:=ce f.o.base U ak.o;refine G.out _ _ ⟨fun _ _=>⟨z,x1,x2⟩,H⟩ ?_;clear G KK;(try simp only[Act.put,sA,sB,sC]);have R:=cq3 w6 z x1 x2;have K:=cq1 w6 H
     first
      |(
       refine AnyE.tp (v:=?_) (by rfl) (by kernel_rfl) (by kernel_rfl) (by kernel_rfl) (by kernel_rfl) (by exact fun _ _ _ h=>h) (fun _=>R) K (Or.inl ⟨by rfl,?_⟩) ?_
       rotate_left
       (focus(intro wq y;have bi:_=_:=y;clear y;first|(go_simp;done)|(go_simp;with_reducible rfl))))
      |(
       refine AnyE.sp (v:=?_) (by rfl) (by kernel_rfl) (by kernel_rfl) (by kernel_rfl) (by kernel_rfl) (by kernel_rfl) (by exact fun _ _ _ h=>h) R K (Or.inl ⟨by rfl,?_⟩) ?_
       rotate_left
       (focus(intro wq y;obtain⟨bj,bk,bl⟩:=y;first|(go_simp;done)|(go_simp;with_reducible rfl))))
     (try simp only[Act.put,sA,sB,sC]);refine Plan.done ?_;have al:=F.o.below f.o.base;have m4:=f.o.ts (b4,_,_) (List.Mem.tail _ (List.Mem.tail _ (List.Mem.head _)));have m6:=f.o.ts (b6,_,_) (List.Mem.head _);have f0:=al.blk.blk.free X2;have ad:=(al.mono (K':=(KM+C)+C) (by omega)).set ca m4.1 (m4.2.1.mono (by simp only;omega)) (by omega) (Nat.le_refl ((KM+C)+C));obtain⟨Z1,ae⟩:=nm (w6.setCell ⟨g,X2,none⟩ (.pointer (some ⟨b4,0,none⟩)));rw[ae] at ad;have f1:=ad.blk.blk.free Y2;obtain⟨bY,kY,_,y1,_⟩:=ad.get bh;have a4:Only g w6 Z1:=by rw[<-ae];exact(Only.refl g w6).setCell _ _
     have a5:=(L.o.below f.o.base L.o.lt).only a4 bd;have a6:Z1.cell? ⟨aq,1,none⟩=some (.int .i64 (B:Nat)):=a5.cell 1;have v6:=m6.1.pv F.o f.o.base ae;obtain⟨Z2,af⟩:=nm (Z1.setCell ⟨g,Y2,none⟩ (.pointer (some ⟨b6,0,none⟩)));have a7:=ad.set bh v6 (m6.2.1.mono (by simp only;omega)) (by omega) (Nat.le_refl ((KM+C)+C));rw[af] at a7;have bx:=Hi a7;have bm:O (∀(c:Nat) (q:Rat),RatVal w6 c q->RatVal Z2 c q):=Hi (fun c q hc=>(hc.pv F.o f.o.base ae).pv ad bR af);have bn:O (Bl V Z2):=Hi (by
      rw[<-af]
      exact(((ai.o.trans (f.o.base.mono ai.o.size)).trans (a4.below (Nat.le_of_eq az.o) (Nat.le_trans ai.o.size f.o.base.size)))).setCell (p:=⟨g,Y2,none⟩) (Nat.le_of_eq az.o) _)
     have bq:O (SB Z2 aq 80 #[.int .i64 (A:Nat),.int .i64 (B:Nat),.string b.c,.string b.e,.string b.l,.string b.m]):=Hi (by
      rw[<-af]
      exact a5.only ((Only.refl g Z1).setCell _ _) bd)
     obtain⟨bz,b0,db⟩:=Ib ae af m4;clear al m4 m6 ad a7 a4 a5 v6 ae af;refine AnyE.one (i:=37) (by kernel_rfl) rfl (fun KK G=>?_);go_simp;rw[bz.o];refine G.out _ _ ⟨fun h=>absurd (by decide) h,a6⟩ ?_;clear G KK R K z x1 x2 H f0;(try simp only[Act.put,sA,sB,sC]);have K:=cq1 Z1 a6;refine AnyE.takeT (i:=38) (v:=?_) rfl (by kernel_rfl) (by kernel_rfl) (by kernel_rfl) (by kernel_rfl) (fun _ _ _ h=>h) (Or.inl ⟨by rfl,?_⟩) (fun h=>absurd h (Qcl (d:=37) (by rfl) (by rfl))) K ?_
     rotate_left
     .
      intro wq y;clear y
      first|(go_simp;done)|(go_simp;with_reducible rfl)
     (try simp only[Act.put,sA,sB,sC]);have b7:O (Z2.cell? ⟨aq,1,none⟩=some (.int .i64 (B:Nat))):=Hi (bq.o.cell 1);refine AnyE.one (i:=39) (by kernel_rfl) rfl (fun KK G=>?_);go_simp;rw[b0.o];refine G.out _ _ ⟨fun h=>absurd (by decide) h,b7.o⟩ ?_;clear G KK K a6 f1 y1;(try simp only[Act.put,sA,sB,sC]);refine AnyE.done (by kernel_rfl) ?_ _;have cq:O (PV Z2 V.heap.size g N (kF C (k+1)) (fun r=>dot (k+1) (balM vb M.length vh r) x) _):=Hi (by
      have h1:=bx.o;obtain⟨e1,e2,e3,e4⟩:=eg.o;have e8:=c5.o;have f1:E1 X2=E X2:=by rw[<-cp.o,Qad _ _ (by omega),Qad _ _ (by omega)]
      have f2:E1 Y2=E Y2:=by rw[<-cp.o,Qad _ _ (by omega),Qad _ _ (by omega)]
      rw[f1,f2,<-cp.o] at h1;have eh:=Qkj C k;rw[ef.o] at eh;refine(h1.mono (by omega)).congr (fun r=>?_);have:=Qst (vh:=vh) (nb:=M.length) (x:=x) ed.o c5.o (E:=E) (fun r=>by rw[<-HE.o]) r;simp only at this;rw[e2,e1,e4,e3] at this
      exact this)
     go_wp2;go_roundw
     case rel=>exact⟨k+1,_,by omega,by go_num,cq.o,bn.o⟩
     case measure=>simp[intOf];omega
    .
     obtain rfl:k=M.length:=by omega
     obtain⟨-,-,z2,-⟩:=zc (ay.o.below I.o ay.o.lt);go_wp2_with fail;clear z2;go_loopw [124] (fun iv wr=>∃(m:Nat) (ts:List RT),m<=hs.length/\iv=.int .i64 m/\PV wr V.heap.size g N (kF C (M.length+m)) (fun r=>dot (M.length+m) (balM vb M.length vh r) x) ts/\Below V.heap.size V wr) (fun iv _=>hs.length - (intOf iv).toNat)
     case atStart=>exact⟨0,ts,Nat.zero_le _,rfl,F.o,I.o⟩
     case round=>
      clear F I ap;obtain⟨m,ts,hm,rfl,u,am⟩:=hrel;obtain⟨F,I,ap⟩:=Ib u am (ao.o.trans (am.mono ao.o.size));clear u am;by_cases ei:m<hs.length
      .
       obtain⟨h,b8⟩:∃h,hs[m]?=some h:=⟨_,gE ei⟩;obtain⟨R0,cr⟩:∃r,vh[m]?=some r:=⟨vh[m]'(by have:=HV.o.lh;omega),gE _⟩;obtain⟨J,hJ,ej,cs⟩:=(HV.o.vh m h R0 b8 cr).ex;obtain⟨bb,bo,rfl,dz,d0,d1,d2⟩:=(HF.o.h.below ap.o).hold b8;obtain⟨WW,dd,de,ek⟩:∃WW:Nat,h.w=(WW:Int)/\(WW=1∨WW=2)/\R0+1=2*J+WW:=by
        rcases HW.o m h b8 with e|e
        . exact⟨1,by rw[e];rfl,.inl rfl,by rw[cs,if_pos e]⟩
        . exact⟨2,by rw[e];rfl,.inr rfl,by rw[cs,if_neg (by omega)]⟩
       rw[hJ] at d0;rw[dd] at d1;obtain⟨J2,em⟩:=nm (2*J);obtain⟨S1,en⟩:=nm (J2+WW);have w1:IntKind.i64.wrap (2*(J:Int))=(J2:Int):=by rw[wrap_i64 _ (by omega) (by omega)];omega
       have w2:IntKind.i64.wrap ((J2:Int)+(WW:Int))=(S1:Int):=by rw[wrap_i64 _ (by omega) (by omega)];omega
       have w3:IntKind.i64.wrap ((S1:Int) - 1)=(R0:Int):=by rw[wrap_i64 _ (by omega) (by omega)];omega
       have df:R0<N:=by have:=a9.o;omega
       have iR:(R0:Int)<(N:Int):=by omega
       have q1:((m:Int)<(hs.length:Int)):=by omega
       obtain⟨aq,aj⟩:=nm wr.heap.size;obtain⟨Z,an⟩:=nm (wr.alloc (.cells #[.int .i64 (J:Nat),.int .i64 (WW:Nat),.string h.q] 83));have ar:=Ua an;have L:=Uf an aj;have ai:=Hi (I.o.trans (ar.o.mono I.o.size));have Q:=ap.o.trans (ar.o.mono ap.o.size);obtain⟨⟨xt,tq,tk⟩,au⟩:∃t,th[m]?=some t:=⟨th[m]'(by have:=dk.o;omega),gE _⟩;obtain⟨bf,av⟩:=dm.o m _ au;simp only at bf av;subst bf;obtain⟨pb,po,rfl,a0,dg⟩:=HH.o.at au;have x3:=ce Q a0 dg;have S:=Nat.lt_of_lt_of_le a0 Q.size;have aw:=(HH.o.below Q).vs _ (mO au);have u:=F.o.below ar.o
       obtain⟨E,hE⟩:∃E:Vec,(fun r=>dot (M.length+m) (balM vb M.length vh r) x)=E:=⟨_,rfl⟩;rw[hE] at u;obtain⟨KM,ax⟩:=nm (kF C (M.length+m));rw[ax] at u;have ee:KM<=88*C+1:=by rw[<-ax];exact kF_le (by omega)
       have dh:kF C (M.length+(m+1))=KM+2*C:=by rw[<-ax];exact Qkj C (M.length+m)
       obtain⟨tX,kX,_,x2,vX,fX,gX⟩:=u.get df;obtain⟨z,x1,-⟩:=zc L.o;have T:=u.blk.blk.lt;have U:=L.o.lt;obtain⟨P,W,aa,eo⟩:=Ic z x1 x2 x3;have f:O (RBag Z Z [(xt,x (M.length+m),KX),(tX,E R0,KM)]):=Hi (((HG.o.below Q).rebase.put vX fX gX).put aw.1 (aw.2.1.mono av) (Nat.lt_of_lt_of_le aw.2.2 av));clear F;obtain⟨F,HE,ep,eq,er,ck⟩:=Ie u hE dh cr an aj;clear b8 cr hJ ej cs dd de ek em en aj an Q au av dg aw u hE ax dh vX fX gX;go_wp2_with fail;rw[er.o];simp only[ck.o];clear d0 d1 d2;have ag:=cq4 Z.drew z x1 x2 x3;refine AnyBut.beg (k:=24) (by kernel_rfl) ag ?_
       refine Plan.of [0,1,2,3,4,5,6,7,8,9,10,11,12,13,14,15,16,17,18,19,20,21,22,23,24] ?_
       iterate 22
        refine AnyBut.bp (v:=?_) (by rfl) (by kernel_rfl) (by kernel_rfl) (by kernel_rfl) (by kernel_rfl) (by exact fun _ _ _ h=>h) ag (Or.inl ⟨by rfl,?_⟩) ?_
        rotate_left 1
        (focus(intro wq y;obtain⟨bj,bk,bl,es⟩:=y;first|(go_simp;done)|(go_simp;with_reducible rfl)));(try simp only[Act.put,sA,sB,sC])
       clear ag;refine AnyBut.op (by kernel_rfl) (by rfl) (fun KK G=>?_);go_simp;apply cM;apply RBag.add (w0:=Z);exact f.o.drew;repeat(first|exact mH|apply mT);omega;rintro e wn ⟨nb,rfl,n⟩;obtain⟨bt,di⟩:=Ia n.base (n.ts _ (List.Mem.head _));clear z x1 x2 x3 n;obtain⟨z,x1⟩:=Ja bt.o U P.o W.o;have x2:=ce bt.o T aa.o;have x3:=ce bt.o S eo.o;have al:=F.o.below bt.o;have f0:=al.blk.blk.free R0;have et:=Hi al;clear al;refine G.out _ _ (fun _=>⟨z,x1,x2,x3⟩) ?_;clear G KK;(try simp only[Act.put,sA,sB,sC]);have ag:=cq4 wn z x1 x2 x3
       refine AnyBut.bp (v:=?_) (by rfl) (by kernel_rfl) (by kernel_rfl) (by kernel_rfl) (by kernel_rfl) (by exact fun _ _ _ h=>h) ag (Or.inl ⟨by rfl,?_⟩) ?_
       rotate_left 1
       (focus(intro wq y;obtain⟨bj,bk,bl,es⟩:=y;first|(go_simp;done)|(go_simp;with_reducible rfl)));(try simp only[Act.put,sA,sB,sC]);clear ag;refine AnyBut.op (by kernel_rfl) (by rfl) (fun KK G=>?_);go_simp;refine G.out _ _ (fun h=>absurd rfl h) ?_;clear G KK;(try simp only[Act.put,sA,sB,sC]);refine Plan.done (AnyBut.done (by kernel_rfl) ?_ _);clear z x1 x2 x3 f0;have cq:O (PV (wn.setCell ⟨g,R0,none⟩ (.pointer (some ⟨nb,0,none⟩))) V.heap.size g N (kF C (M.length+(m+1))) (fun r=>dot (M.length+(m+1)) (balM vb M.length vh r) x) _):=Hi (by
        rw[ep.o]
        exact((et.o.mono (K':=KM+2*C) (by omega)).set df di.o.1 (di.o.2.1.mono (by simp only;omega)) (by omega) lZ).congr (fun r=>Qsu HV.o.lb eq.o (fun r=>by rw[<-HE.o]) r))
       go_wp2;go_roundw
       case rel=>exact⟨m+1,_,by omega,by go_num,cq.o,(ai.o.trans (bt.o.mono ai.o.size)).setCell (p:=⟨g,R0,none⟩) (Nat.le_of_eq az.o) _⟩
       case measure=>simp[intOf];omega
      .
       obtain rfl:m=hs.length:=by omega
       go_wp2;go_ret;refine⟨N,g,ts,a9.o.symm,rfl,?_,ap.o⟩;have h1:=F.o;exact⟨h1.blk,Nat.le_trans ao.o.size h1.low,h1.len,fun i t ht=>⟨(h1.q i t ht).1,Nat.le_trans (h1.q i t ht).2 (Nat.le_trans (kF_le (by omega)) (by omega))⟩⟩
theorem Ql8:∀(n:Nat) (r x:Vec),dot n r x=dot n x r
 |0,_,_=>rfl
 |n+1,r,x=>by rw[dot,dot,Ql8 n r x,Rat.mul_comm (r n)]
def laidAt(ρ:Nat->Nat)(m:Vec):Nat->Vec
 |0=>fun _=>0
 |r+1=>upd (laidAt ρ m r) (ρ r) (laidAt ρ m r (ρ r)+m r)
theorem Qhc{N:Nat}(ρ:Nat->Nat)(m s:Vec):∀r,(∀i,i<r->ρ i<N)->dot N s (laidAt ρ m r)=dot r (fun i=>s (ρ i)) m
 |0,_=>Qbm N _ _ (fun c _=>by show s c*(0:Rat)=0;grind)
 |r+1,h=>by
  rw[laidAt,Qch _ _ _ _ _ (h r (by omega)),Qhc ρ m s r (fun i a=>h i (by omega))]
  show _=dot r (fun i=>s (ρ i)) m+s (ρ r)*m r
  grind
def colV(N:Nat)(M:Nat->Vec)(c:Nat):Vec:=fun i=>if i<N then M i c else 0
theorem Ql9{N W r:Nat}{M:Nat->Vec}{T S:List Vec}(ρ:Nat->Nat)(hρ:∀i,i<r->ρ i<N)(a:∀m:Vec,(∀c,c<W->dot r m (fun i=>M (ρ i) c)=0)->∀i,i<r->m i=0)
 (g:∀x,Null N T x↔∀c,c<W->dot N (colV N M c) x=0) (j:∀x,Null N T x↔Null N S x):r<=S.length:=by
 apply bC;intro k;obtain⟨m,l,c,d,e⟩:=Qr9 (W:=r) (M:=S.map (fun s i=>s (ρ i))) (by rw[List.length_map];omega);refine e (a m (fun c d=>?_) c d);have o:Null N S (laidAt ρ m r):=fun s hs=>by
  rw[Qhc ρ m s r hρ];exact l _ (List.mem_map.2 ⟨s,hs,rfl⟩)
 have f:=(g _).1 ((j _).2 o) c d;rw[Qhc ρ m _ r hρ,Ql8] at f;rw[<-f];exact Qai r _ _ _ _ (fun i p=>by simp only[colV,if_pos (hρ i p)])
theorem Ech.cnt:∀{S:List Vec} {hs:Vy} {lo g:Nat},Ech lo g S hs->∀k,hs.countP (fun c=>decide (c<k+1))=hs.countP (fun c=>decide (c<k))+if k∈ hs then 1 else 0
 | [],[],_,_,_,k=>by simp
 |r :: S,h :: hs,lo,g,⟨_,_,_,h4⟩,k=>by
  have j:=h4.cnt k;rw[List.countP_cons,List.countP_cons,j];have d:∀c,c∈ hs->h<c:=fun c l=>by have:=(h4.head c l).1;omega
  by_cases e:k=h
  .
   have o:k ∉ hs:=fun hk=>by have:=d k hk;omega
   have m:k∈ h :: hs:=by rw[e];exact .head _
   have a:h<k+1:=by omega
   have f:¬h<k:=by omega
   simp only[if_neg o,if_pos m,decide_eq_true a,decide_eq_false f,if_true];simp
  .
   by_cases hk:k∈ hs
   .
    have m:k∈ h :: hs:=.tail _ hk;have:=d k hk;have a:h<k+1:=by omega
    have f:h<k:=by omega
    simp only[if_pos hk,if_pos m,decide_eq_true a,decide_eq_true f,if_true]
   .
    have m:¬k∈ h :: hs:=fun p=>by
     rcases List.mem_cons.1 p with q|q
     . exact e q
     . exact hk q
    by_cases i:h<k
    . have a:h<k+1:=by omega
      simp only[if_neg hk,if_neg m,decide_eq_true a,decide_eq_true i,if_true]
    .
     have a:¬h<k+1:=by omega
     simp only[if_neg hk,if_neg m,decide_eq_false a,decide_eq_false i];simp
 | [],_ :: _,_,_,h,_=>h.elim
 |_ :: _,[],_,_,h,_=>h.elim
theorem Ech.free{S:List Vec}{hs:Vy}{W:Nat}(h:Ech 0 W S hs):(freeTo hs W).length+hs.length=W:=by
 have a:∀k,(freeTo hs k).length+hs.countP (fun c=>decide (c<k))=k:=by
  intro k
  induction k with
  |zero=>simp[freeTo]
  |succ k e=>
   rw[Qdf,h.cnt k];by_cases hk:k∈ hs
   . rw[if_pos hk,if_pos hk];omega
   . rw[if_neg hk,if_neg hk,List.length_append,List.length_singleton];omega
 have:=a W;rw[List.countP_eq_length.2 (fun c d=>by simpa using (h.head c d).2)] at this;exact this
section
variable {n P b K1 K2:Nat} {js:List S2} {bs:List B6} {hs:List H3} {vb:List (Nat × Nat × Rat × Rat)} {vh:Vy}
theorem Qma(x:Vec):Null (2*js.length) (balCols js.length vb bs.length vh hs.length) x↔∀c,c<bs.length+hs.length->dot (2*js.length) (colV (2*js.length) (balM vb bs.length vh) c) x=0:=by
 constructor
 . intro h c a
   exact h _ (List.mem_map.2 ⟨c,List.mem_range.2 a,rfl⟩)
 .
  intro h r d;obtain⟨c,a,rfl⟩:=List.mem_map.1 d;exact h c (List.mem_range.1 a)
theorem MI.rows_ind{j k c:Nat}{e:List Vec}{L S:List Vec}{a:Vy}{N W:Nat}{M:Nat->Vec}(l:MI j k e c L S a)(o:∀r,r∈ e->∃t,t<N/\∀c,c<W->r c=M t c)(f:∀h,h∈ a->h<W):
 ∃ρ:Nat->Nat,(∀i,i<a.length->ρ i<N)/\∀m:Vec,(∀c,c<W->dot a.length m (fun i=>M (ρ i) c)=0)->∀i,i<a.length->m i=0:=by
 obtain⟨_,_,_,R,p,q,_,_⟩:=l;have hex:∀i:Nat,∃t:Nat,i<a.length->t<N/\∀c,c<W->R i c=M t c:=fun i=>by
  by_cases d:i<a.length
  . obtain⟨t,s,u⟩:=o (R i) (p i d)
    exact⟨t,fun _=>⟨s,u⟩⟩
  . exact⟨0,fun h=>absurd h d⟩
 obtain⟨ρ,hρ⟩:=Classical.axiomOfChoice hex;refine⟨ρ,fun i d=>(hρ i d).1,fun m h=>q m (fun c g=>?_)⟩;rw[<-h c (f c g)];exact Qai _ _ _ _ _ (fun i d=>by rw[(hρ i d).2 c (f c g)])
theorem ranks{u l v w:List Vec}{y m:Vy}(o:MJ (bs.length+hs.length) 20 K1 (balRows js.length vb bs.length vh) (bs.length+hs.length) u l y)(p:MJ (2*js.length) 20 K2 (balCols js.length vb bs.length vh hs.length) (2*js.length) v w m):l.length=m.length:=by
 obtain⟨q,z⟩:=o.1.done;obtain⟨s,A⟩:=p.1.done;have B:=q.len;have C:=s.len;apply Nat.le_antisymm
 .
  obtain⟨ρ,e,f⟩:=o.2.1.rows_ind (N:=2*js.length) (W:=bs.length+hs.length) (M:=balM vb bs.length vh) (fun r a=>by
   obtain⟨t,g,rfl⟩:=List.mem_map.1 a
   exact⟨t,List.mem_range.1 g,fun _ _=>rfl⟩) (fun h j=>(q.head h j).2)
  rw[B,<-C];exact Ql9 ρ e f Qma A
 .
  obtain⟨ρ,e,f⟩:=p.2.1.rows_ind (N:=bs.length+hs.length) (W:=2*js.length) (M:=fun c i=>balM vb bs.length vh i c) (fun r a=>by
   obtain⟨t,g,rfl⟩:=List.mem_map.1 a
   exact⟨t,List.mem_range.1 g,fun c d=>if_pos d⟩) (fun h j=>(s.head h j).2)
  refine Ql9 (M:=fun c i=>balM vb bs.length vh i c) (W:=2*js.length) ρ e f (T:=balRows js.length vb bs.length vh) (fun x=>⟨fun h c d=>?_,fun h r a=>?_⟩) z
  . rw[<-h _ (List.mem_map.2 ⟨c,List.mem_range.2 d,rfl⟩)]
    exact Qai _ _ _ _ _ (fun i k=>by simp only[colV,if_pos k])
  .
   obtain⟨c,d,rfl⟩:=List.mem_map.1 a;rw[<-h c (List.mem_range.1 d)];exact Qai _ _ _ _ _ (fun i k=>by simp only[colV,if_pos k])
end
theorem Qmb(r x:Vec):∀n,dot (2*n) r x=sumQ n (fun q=>r (2*q)*x (2*q)+r (2*q+1)*x (2*q+1))
 |0=>rfl
 |n+1=>by
  rw[show 2*(n+1)=2*n+1+1 by omega]
  show dot (2*n) r x+r (2*n)*x (2*n)+r (2*n+1)*x (2*n+1)=sumQ n _+_
  rw[Qmb r x n];grind
theorem Qxs{n:Nat}{p:Nat × Nat × Rat × Rat}(v:Vec)(d:p.1<n)(e:p.2.1<n)(f:p.1≠p.2.1):dot (2*n) (fun i=>if i<2*n then barAt p i else 0) v= -(p.2.2.1*(v (2*p.2.1) - v (2*p.1))+p.2.2.2*(v (2*p.2.1+1) - v (2*p.1+1))):=by
 rw[Qai (2*n) _ v (barAt p) v (fun i g=>by rw[if_pos g]),Qmb,Qj3 n _ p.1 p.2.1 d e f (fun q _ k l=>?_)]
 .
  have a:barAt p (2*p.1)=p.2.2.1:=if_pos rfl;have c:barAt p (2*p.1+1)=p.2.2.2:=by unfold barAt;rw[if_neg (by omega),if_neg (by omega),if_pos rfl]
  have h:barAt p (2*p.2.1)= -p.2.2.1:=by unfold barAt;rw[if_neg (by omega),if_pos rfl]
  have j:barAt p (2*p.2.1+1)= -p.2.2.2:=by unfold barAt;rw[if_neg (by omega),if_neg (by omega),if_neg (by omega),if_pos rfl]
  simp only[a,c,h,j];grind
 .
  have a:barAt p (2*q)=0:=by unfold barAt;rw[if_neg (by omega),if_neg (by omega),if_neg (by omega),if_neg (by omega)]
  have c:barAt p (2*q+1)=0:=by unfold barAt;rw[if_neg (by omega),if_neg (by omega),if_neg (by omega),if_neg (by omega)]
  simp only[a,c];grind
section
variable {n P b K1 K2:Nat} {js:List S2} {bs:List B6} {hs:List H3} {vb:List (Nat × Nat × Rat × Rat)} {vh:Vy} {vs:List (Nat × Rat × Rat)}
theorem Qxt(f:FrV n js bs hs vb vh)(v:Vec){i:Nat}{p:Nat × Nat × Rat × Rat}(a:vb[i]?=some p)(c:p.1<js.length)(d:p.2.1<js.length)(e:p.1≠p.2.1):dot (2*js.length) (colV (2*js.length) (balM vb bs.length vh) i) v= -stretch p v:=by
 rw[show colV (2*js.length) (balM vb bs.length vh) i=fun r=>if r<2*js.length then barAt p r else 0 from by
  funext r
  simp only[colV,balM,a]]
 exact Qxs v c d e
theorem Qxu(f:FrV n js bs hs vb vh)(v:Vec){i r:Nat}(g:vh[i]?=some r)(d:r<2*js.length):dot (2*js.length) (colV (2*js.length) (balM vb bs.length vh) (bs.length+i)) v=v r:=by
 have e:∀q,q<2*js.length->colV (2*js.length) (balM vb bs.length vh) (bs.length+i) q=if q=r then 1 else 0:=fun q j=>by
  have l:vb[bs.length+i]?=none:=List.getElem?_eq_none (by have:=f.lb;omega);simp only[colV,if_pos j,balM,l,Nat.add_sub_cancel_left,g];by_cases h:q=r
  . rw[if_pos ⟨by omega,h⟩,if_pos h]
  . rw[if_neg (fun k=>h k.2),if_neg h]
 rw[Qbz _ _ _ r d (fun c m a=>by rw[e c m,if_neg a];grind),e r d,if_pos rfl];grind
theorem Qxv(h:FrP P b vb)(i:FrV n js bs hs vb vh){j d e f:List Vec}{k a:Vy}(l:MJ (bs.length+hs.length) 20 K1 (balRows js.length vb bs.length vh) (bs.length+hs.length) j d k)(g:MJ (2*js.length) 20 (kC b) (balCols js.length vb bs.length vh hs.length) (2*js.length) e f a):(freeTo a (2*js.length)).length+d.length=2*js.length:=by
 obtain⟨_,_,c⟩:=h.cols i;rw[ranks l g];exact(c e f a g).1.1.free
end
theorem Qxw{m:Nat}{hs:List H3}{i:Nat}{h:H3}(k:holdAt m hs i h=0):h.w=1∨h.w=2:=by
 unfold holdAt holdC at k;by_cases a:h.w=1
 . exact .inl a
 .
  by_cases c:h.w=2
  . exact .inr c
  .
   split at k
   . rw[if_pos ⟨a,c⟩] at k
     cases k
   . cases k
open Go.ChangeShapes Go.WideShapes Go.ChangeAt Go.RowKit
section
variable {H:Type} {enc:TypeId × Value->H} {W:Vz}
theorem Qla:∀a:List S2,jW a<=Rows.uptoBulkAll (a.map (spotD (H:=H)))
 | []=>by simp[jW,Rows.uptoBulkAll]
 |s :: l=>by
  have b:=Qla l;have c:=(Qg2 (H:=H) s).2;simp only[jW,List.map_cons,Rows.uptoBulkAll];omega
end
theorem Qnv:(prog.info? 103).map (fun i=>(i.zero,i.size,i.bytes))=some (some (.slice .none 0 0),1,24):=by kernel_rfl
theorem Qnw(n:Nat):madeCells (Value.cells (.slice none 0 0)) n=(List.replicate n (Value.slice none 0 0)).toArray:=by
 have e:Value.cells (.slice none 0 0)=#[.slice none 0 0]:=by rfl
 rw[e];apply Array.ext';rw[toList_madeCells_one]
theorem Qhy(n:Nat)(d:n<=1048576)(w:Vz):(Instr.makeSlice 44 (.int .i64 n) (.int .i64 n)).run prog w=.ok (.slice (some ⟨w.heap.size,0,.none⟩) n n) (w.alloc (.cells (List.replicate n (Value.slice none 0 0)).toArray 103)):=by
 obtain⟨i,a,h⟩:=Option.map_eq_some_iff.1 Qnv;simp only[Prod.mk.injEq] at h;obtain⟨b,hs,c⟩:=h;have:=run_make w 44 103 i _ underlying44 a b .i64 .i64 n n (by omega) (by omega) (by rw[c];omega) (by omega);rw[Int.toNat_natCast,hs,Nat.mul_one,Qnw] at this;exact this
theorem PGrow.keep{w w':Vz}{B:Nat}{v:Value}{a:List RT}(h:PGrow w B v a)(hk:∀b,v.ownBlock=some b->w'.heap[b]?=w.heap[b]?)(d:∀b q,RatVal w b q->RatVal w' b q):PGrow w' B v a:=
 ⟨h.list.keep hk,fun t c=>⟨d _ _ (h.vs t c).1,(h.vs t c).2⟩⟩
theorem PGrow.ptr{w:Vz}{B b:Nat}{v:Value}{a:List RT}(h:PGrow w B v a)(c:v.ownBlock=some b):∃C,SB w b 84 C:=by
 obtain⟨C,d,_⟩:=h.list.sb c;exact⟨C,d⟩
theorem SB.same{w w':Vz}{b:Nat}{t:Vr}{C:Vw}(h:SB w b t C)(e:w'.heap[b]?=w.heap[b]?):SB w' b t C:=by
 unfold SB at h ⊢;rw[e];exact h
structure GR (w:Vz) (B g:Nat) (vs:Vv) (tss:List (List RT)):Prop where
 blk:SB w g 103 vs.toArray
 low:B<=g
 len:tss.length=vs.length
 row:∀(i:Nat) (v:Value) (ts:List RT),vs[i]?=some v->tss[i]?=some ts->PGrow w B v ts
 apart:∀(i j:Nat) (u v:Value) (b:Nat),i≠j->vs[i]?=some u->vs[j]?=some v->u.ownBlock=some b->v.ownBlock≠some b
section
variable {w w':Vz} {B g:Nat} {vs:Vv} {tss:List (List RT)}
theorem GR.below(h:GR w B g vs tss)(a:Bl w w'):GR w' B g vs tss:=⟨h.blk.below a h.blk.lt,h.low,h.len,fun i v b c d=>(h.row i v b c d).below a,h.apart⟩
theorem GR.start(w:Vz)(n:Nat):GR (w.alloc (.cells (List.replicate n (Value.slice none 0 0)).toArray 103)) w.heap.size w.heap.size (List.replicate n (Value.slice none 0 0)) (List.replicate n []):=by
 refine⟨SB.new _ _ _,Nat.le_refl _,by simp,fun i v f a c=>?_,fun i j u v b _ d _ e=>?_⟩
 .
  obtain⟨_,rfl⟩:=List.mem_replicate.1 (mO a);obtain⟨_,rfl⟩:=List.mem_replicate.1 (mO c);exact PGrow.nil _ _
 . obtain⟨_,rfl⟩:=List.mem_replicate.1 (mO d)
   cases e
theorem GR.get(h:GR w B g vs tss){i:Nat}{v:Value}(d:vs[i]?=some v):∃b,tss[i]?=some b/\PGrow w B v b/\w.cell? ⟨g,i,none⟩=some v/\∃a c,v=.slice a b.length c:=by
 obtain⟨b,f⟩:∃b,tss[i]?=some b:=⟨_,gE (by rw[h.len];exact(gZ d).1)⟩;have j:=h.row i v b d f;obtain⟨a,c,e,_⟩:=j.row;exact⟨b,f,j,by rw[h.blk.cell];simpa using d,a,c,e⟩
theorem GR.sl(h:GR w B g vs tss){v:Value}(b:v∈ vs):IsSl v:=by
 obtain⟨i,d⟩:=List.getElem?_of_mem b;obtain⟨f,_,_,_,a,c,e⟩:=h.get d;exact⟨_,_,_,e⟩
theorem GR.own_ne(h:GR w B g vs tss){v:Value}{b:Nat}(a:v∈ vs)(c:v.ownBlock=some b):b≠g/\b<w.heap.size:=by
 obtain⟨i,d⟩:=List.getElem?_of_mem a;obtain⟨f,_,e,_⟩:=h.get d;obtain⟨C,hC⟩:=e.ptr c;exact⟨hC.unlike h.blk Qee,hC.lt⟩
theorem Qcx{α:Type}{l:List α}{i j:Nat}{x y:α}(h:(l.set i x)[j]?=some y):(j=i/\x=y)∨(j≠i/\l[j]?=some y):=by
 by_cases e:j=i
 .
  subst e;have hl:=(gZ h).1;rw[List.getElem?_set_self (by simpa using hl)] at h;exact .inl ⟨rfl,Option.some.inj h⟩
 . rw[List.getElem?_set_ne (Ne.symm e)] at h
   exact .inr ⟨e,h⟩
theorem GR.app{i pb K:Nat}{q:Rat}{v:Value}{S:List RT}(h:GR w B g vs tss)(G:vs[i]?=some v)(W:tss[i]?=some S)(hq:RatVal w pb q)(hf:Fits q K)(hK:0<K)(hn:S.length<=1000)(hB:B<=w.heap.size)(ty:Vr):
 ∃o w',appR prog 103 ty v (.slice (some ⟨w.heap.size,0,none⟩) 1 1) (w.alloc (.cells #[.pointer (some ⟨pb,0,none⟩)] 84))=.ok o w'/\w'.cell? ⟨g,i,none⟩=some v/\w'.frozen? ⟨g,i,none⟩=false/\(∃a c,o=.slice a (S.length+1) c)/\
  GR (w'.setCell ⟨g,i,none⟩ o) B g (vs.set i o) (tss.set i (S++ [(pb,q,K)]))/\Below B w w'/\(∀b q,RatVal w b q->RatVal (w'.setCell ⟨g,i,none⟩ o) b q)/\
  ∀r,(∀u,u∈ vs->u.ownBlock≠some r)->r<w.heap.size->r≠g->(w'.setCell ⟨g,i,none⟩ o).heap[r]?=w.heap[r]?/\∀u,u∈ vs.set i o->u.ownBlock≠some r:=by
 obtain⟨Y,X⟩:=nm (w.alloc (.cells #[.pointer (some ⟨pb,0,none⟩)] 84));have f:Bl w Y:=by rw[<-X];exact(Below.refl _ _).alloc lZ _
 have Z:Y.cell? ⟨w.heap.size,0,none⟩=some (.pointer (some ⟨pb,0,none⟩)):=by rw[<-X];exact Qa0 w _ _
 rw[X];have y:=h.below f;have hp:=y.row i v S G W;obtain⟨o,w',T,z,aa,U,H,V⟩:=hp.appT (t:=103) (us:=[(pb,q,K)]) (nb:=w.heap.size) (c:=1) (m:=1) underlying103 (fun t W=>by
  obtain rfl:=List.mem_singleton.1 W
  exact⟨hq.below f,hf,hK⟩) rfl (fun j u I=>by
  match j,I with
  |0,I=>
   obtain rfl:Value.pointer (some ⟨pb,0,none⟩)=u:=by simpa [ptrV] using I
   rw[Qau]
   exact Z) (by omega) (Nat.le_trans hB f.size) ty
 have A:=mO G;have n:∀b,b<Y.heap.size->v.ownBlock≠some b->w'.heap[b]?=Y.heap[b]?:=fun b d J=>H.block b d (fun e=>J e.symm)
 have l:=y.blk.same (n g y.blk.lt (fun e=>(y.own_ne A e).1 rfl));have ho:Only g w' (w'.setCell ⟨g,i,none⟩ o):=(Only.refl g w').setCell _ _;have ab:∀u,u∈ vs.toArray.toList->IsSl u:=fun u p=>h.sl (by simpa using p)
 have L:∀b q,RatVal w' b q->RatVal (w'.setCell ⟨g,i,none⟩ o) b q:=fun b q d=>d.fs (Fs.of_only ho l ab)
 have s:=fun b d hl=>ho.block b hl d
 have ad:=(gZ G).1;have M:∀b,o.ownBlock=some b->v.ownBlock=some b∨(v.ownBlock≠some b/\Y.heap.size=b):=fun b d=>by
  rcases V with e|e
  . exact .inl (e ▸ d)
  .
   rw[e] at d;obtain rfl:=Option.some.inj d;exact .inr ⟨fun R=>by have:=(y.own_ne A R).2;omega,rfl⟩
 obtain⟨na,nc,ae,_⟩:=z.row;refine⟨o,w',T,by rw[l.cell];simpa using G,l.free i,⟨na,nc,by simpa using ae⟩,⟨?_,h.low,by simp[h.len],fun j u us p D=>?_,fun j k u x b E p hx d=>?_⟩,?_,fun b q d=>L b q ((d.below f).fp U),fun r N O J=>⟨?_,fun u p=>?_⟩⟩
 . have:=l.set i o
   simpa using this
 .
  rcases Qcx p with ⟨rfl,rfl⟩|⟨I,p⟩
  .
   rw[List.getElem?_set_self (by rw[h.len];exact ad)] at D;obtain rfl:=Option.some.inj D;refine z.keep (fun b d=>s b ?_ (z.list.lt d).2) L;obtain⟨C,hC⟩:=z.ptr d;exact hC.unlike l Qee
  .
   rw[List.getElem?_set_ne (Ne.symm I)] at D;have P:=y.row j u us p D;refine(P.keep (w':=w') (fun b d=>n b (P.list.lt d).2 (fun e=>y.apart i j v u b (Ne.symm I) G p e d)) (fun b q d=>d.fp U)).keep (fun b d=>s b (y.own_ne (mO p) d).1 ?_) L;exact Nat.lt_of_lt_of_le (P.list.lt d).2 H.size
 .
  rcases Qcx p with ⟨ej,eu⟩|⟨I,Q⟩
  .
   rcases Qcx hx with ⟨ek,_⟩|⟨hk,F⟩
   . exact absurd (ej.trans ek.symm) E
   .
    rw[<-eu] at d;rcases M b d with e|⟨_,e⟩
    . exact h.apart i k v x b (by rw[<-ej];exact E) G F e
    . exact fun R=>by have:=(y.own_ne (mO F) R).2;omega
  .
   rcases Qcx hx with ⟨ek,ex⟩|⟨hk,F⟩
   .
    intro R;rw[<-ex] at R;rcases M b R with e|⟨_,e⟩
    . exact h.apart i j v u b (by rw[<-ek];exact Ne.symm E) G Q e d
    . have:=(y.own_ne (mO Q) d).2
      omega
   . exact h.apart j k u x b E Q F d
 . exact(f.mono hB).trans aa
 . rw[s r J (Nat.lt_of_lt_of_le O (Nat.le_trans f.size H.size)),n r (Nat.lt_of_lt_of_le O f.size) (N v A),f.block r O]
 .
  rcases List.mem_or_eq_of_mem_set p with p|rfl
  . exact N u p
  .
   intro e;rcases M r e with e|⟨_,e⟩
   . exact N v A e
   . have:=f.size
     omega
theorem GR.pmat(h:GR w B g vs tss)(P:∀c,c∈ tss->0<c.length):∃rs:List PR,rs.length=vs.length/\rs.map PR.ts=tss/\PMat w B g [] rs:=by
 have hex:∀i:Nat,∃r:PR,∀v c,vs[i]?=some v->tss[i]?=some c->r.ts=c/\r.val=v/\v.ownBlock=some r.b/\SB w r.b 84 r.cells.toArray/\B<=r.b/\(∀u,u∈ r.sp->IsPt u)/\r.ts.length<=r.cap:=fun i=>by
  rcases s:vs[i]? with _|v
  . exact⟨⟨0,0,[],[]⟩,fun v c s=>by cases s⟩
  obtain⟨c,x,L,_⟩:=h.get s;have V:=P c (mO x);rcases L.list.own.2 with ⟨_,e⟩|⟨b,cap,n,rfl,y,M,D,Q,R,m⟩
  . omega
  rw[Nat.mul_one] at m;have o:c.map ptrV++n.toList.drop c.length=n.toList:=by
   rw[<-m];exact List.take_append_drop _ _
  refine⟨⟨b,cap,c,n.toList.drop c.length⟩,fun N E F G=>?_⟩;obtain rfl:=Option.some.inj F;obtain rfl:=Option.some.inj (x.symm.trans G);refine⟨rfl,rfl,rfl,?_,y,fun u H=>?_,D⟩
  .
   show SB w b _ (c.map ptrV++n.toList.drop c.length).toArray
   rw[o];exact M
  .
   obtain⟨C,hC,S⟩:=L.list.all b rfl;rw[M] at hC;injection hC with hC
   injection hC with hC _ _
   subst hC;exact S u (List.mem_of_mem_drop H)
 obtain⟨f,T⟩:=Classical.axiomOfChoice hex;have k:∀i,i<vs.length->∃v c,vs[i]?=some v/\tss[i]?=some c/\(f i).ts=c/\(f i).val=v/\v.ownBlock=some (f i).b/\SB w (f i).b 84 (f i).cells.toArray/\B<=(f i).b/\(∀u,u∈ (f i).sp->IsPt u)/\(f i).ts.length<=(f i).cap:=fun i d=>by
  have s:=gE d;obtain⟨c,x,_⟩:=h.get s;exact⟨_,c,s,x,T i _ c s x⟩
 have z:((List.range vs.length).map f).map PR.val=vs:=by
  apply List.ext_getElem?;intro i;rw[List.map_map,List.getElem?_map];rcases Nat.lt_or_ge i vs.length with d|d
  .
   obtain⟨v,c,t,_,_,p,_⟩:=k i d;rw[List.getElem?_range d,t];simp[p]
  . rw[List.getElem?_eq_none d,List.getElem?_eq_none (by simpa using d)]
    rfl
 have q:∀r,r∈ (List.range vs.length).map f->∃i,i<vs.length/\f i=r:=fun r A=>by
  obtain⟨i,d,rfl⟩:=List.mem_map.1 A;exact⟨i,List.mem_range.1 d,rfl⟩
 refine⟨(List.range vs.length).map f,by simp,?_,⟨?_,(fun u H=>by cases H),h.low,fun r A=>?_,fun r A=>?_,fun i j a b I J y=>?_⟩⟩
 .
  apply List.ext_getElem?;intro i;rw[List.map_map,List.getElem?_map];rcases Nat.lt_or_ge i vs.length with d|d
  .
   obtain⟨v,c,_,t,p,_⟩:=k i d;rw[List.getElem?_range d,t];simp[p]
  . rw[List.getElem?_eq_none (l:=tss) (by rw[h.len];exact d),List.getElem?_eq_none (by simpa using d)]
    rfl
 . rw[z,List.append_nil]
   exact h.blk
 .
  obtain⟨i,d,rfl⟩:=q r A;obtain⟨v,c,_,_,_,_,_,p⟩:=k i d;exact p
 .
  obtain⟨i,d,rfl⟩:=q r A;obtain⟨v,c,t,p,K,_⟩:=k i d;rw[K];exact(h.row i v c t p).vs
 .
  have d:i<vs.length:=by simpa using (gZ J).1
  have O:j<vs.length:=by simpa using (gZ y).1
  rw[List.getElem?_map,List.getElem?_range d] at J;rw[List.getElem?_map,List.getElem?_range O] at y;obtain rfl:=Option.some.inj J;obtain rfl:=Option.some.inj y;obtain⟨v,c,t,_,_,_,p,_⟩:=k i d;obtain⟨N,E,K,_,_,_,U,_⟩:=k j O;intro e;exact h.apart i j v N _ I t K p (by rw[e];exact U)
end
def Bals(M:Nat->Vec)(K i k:Nat)(tss:List (List RT)):Prop:=∀(r:Nat) (ts:List RT),tss[r]?=some ts->ts.length=(if r<i then k+1 else k)/\∀(c:Nat) (t:RT),ts[c]?=some t->t.2.1=M r c/\t.2.2=K
theorem Bals.step{M:Nat->Vec}{K i k pb:Nat}{a:List (List RT)}{d:List RT}{q:Rat}(h:Bals M K i k a)(m:a[i]?=some d)(n:q=M i k):Bals M K (i+1) k (a.set i (d++ [(pb,q,K)])):=by
 intro r us b;have g:=h i d m;rw[if_neg (Nat.lt_irrefl _)] at g;rcases Qcx b with ⟨rfl,rfl⟩|⟨o,b⟩
 .
  rw[if_pos (Nat.lt_succ_self _),List.length_append,g.1];refine⟨rfl,fun c t f=>?_⟩;rcases Nat.lt_or_ge c d.length with hl|hl
  . rw[List.getElem?_append_left hl] at f
    exact g.2 c t f
  .
   have j:=(gZ f).1;rw[List.length_append,List.length_singleton] at j;obtain rfl:c=d.length:=by omega
   rw[List.getElem?_append_right lZ,Nat.sub_self] at f;obtain rfl:=Option.some.inj f;rw[g.1];exact⟨n,rfl⟩
 .
  have l:=h r us b;refine⟨?_,l.2⟩;rw[l.1];by_cases e:r<i
  . rw[if_pos e,if_pos (by omega)]
  . rw[if_neg e,if_neg (by omega)]
theorem Bals.next{M:Nat->Vec}{K n k:Nat}{a:List (List RT)}(h:Bals M K n k a)(d:a.length<=n):Bals M K 0 (k+1) a:=by
 intro r e b;have c:=h r e b;rw[if_pos (Nat.lt_of_lt_of_le (gZ b).1 d)] at c;rw[if_neg (Nat.not_lt_zero _)];exact c
theorem GR.mono{w:Vz}{B b g:Nat}{vs:Vv}{a:List (List RT)}(h:GR w B g vs a)(hB:b<=B):GR w b g vs a:=⟨h.blk,Nat.le_trans hB h.low,h.len,fun i v c d e=>(h.row i v c d e).low hB,h.apart⟩
theorem PV.take{w:Vz}{B g n K m:Nat}{x:Vec}{b:List RT}(h:PV w B g n K x b):PRow w (some ⟨g,0,none⟩) (b.take m):=
 ⟨⟨fun j u c=>by
   obtain⟨t,a,rfl⟩:=Option.map_eq_some_iff.1 (by rw[List.getElem?_map] at c;exact c);have hl:=(gZ a).1;rw[List.length_take] at hl;rw[List.getElem?_take_of_lt (by omega)] at a
   exact⟨g,0,rfl,h.blk.blk.lt,by rw[Nat.zero_add];exact h.blk.cell a⟩⟩,fun t a=>h.blk.vs t (List.mem_of_mem_take a)⟩
theorem PV.drop{w:Vz}{B g n K m:Nat}{x:Vec}{b:List RT}(h:PV w B g n K x b):PRow w (some ⟨g,m,none⟩) (b.drop m):=
 ⟨⟨fun j u c=>by
   obtain⟨t,a,rfl⟩:=Option.map_eq_some_iff.1 (by rw[List.getElem?_map] at c;exact c);rw[List.getElem?_drop] at a
   exact⟨g,m,rfl,h.blk.blk.lt,h.blk.cell a⟩⟩,fun t a=>h.blk.vs t (List.mem_of_mem_drop a)⟩
theorem PRow.nil(w:Vz)(a:Vx):PRow w a []:=⟨⟨fun j u b=>by simp at b⟩,fun t c=>by cases c⟩
theorem Qe7{W c:Nat}(a:c<W)(x:Vec):dot W x (unitV c)=x c:=by
 rw[Qbz W x _ c a (fun i _ b=>by simp only[unitV,if_neg b];grind)];simp only[unitV,if_pos];grind
theorem Qnx(a1 a2 a3:Vx)(c1 c2 c3 K:Nat)(R:List S2)(a:List B6)(hs:List H3)(vb:List (Nat × Nat × Rat × Rat))(vh:Vy)(w:Vz)
 (hg:∃m,w.cell? ⟨4,0,none⟩=some (.int .i64 m)) (hf:FrRow w a1 a2 a3 c1 c2 c3 R a hs) (S:FrV 1048576 R a hs vb vh) (hw:∀(i:Nat) (h:H3),hs[i]?=some h->h.w=1∨h.w=2) (hK:738197945<=K):
 Calls prog 13 #[.agg #[.slice a1 R.length c1,.slice a2 a.length c2,.slice a3 hs.length c3]] w fun e w'=>∃(N g:Nat) (vs:Vv) (d:List (List RT)),N=2*R.length/\e=.returned (.slice (some ⟨g,0,none⟩) N N)/\GR w' w.heap.size g vs d/\vs.length=N/\Bals (balM vb a.length vh) K 0 (a.length+hs.length) d/\Below w.heap.size w w':=by
 have n1:=S.j;have n2:=S.b;have n3:=S.h;obtain⟨HG,HF,HV,HW⟩:=Ic (RBag.start hg) hf S hw;obtain⟨N,hN⟩:=nm (2*R.length);obtain⟨n,hn⟩:=nm (a.length+hs.length);have eN:IntKind.i64.wrap (2*(R.length:Int))=(N:Int):=by rw[wrap_i64 _ (by omega) (by omega)];omega
 have aq:=fun w=>Qhy N (by omega) w
 obtain⟨MC,al⟩:=nm ((List.replicate N (Value.slice none 0 0)).toArray);rw[al] at aq;obtain⟨B0,am⟩:=nm w.heap.size;obtain⟨V,hV⟩:=nm (w.alloc (.cells #[.slice a1 R.length c1,.slice a2 a.length c2,.slice a3 hs.length c3] 26));have ar:=Ua hV;have au:=Uf hV am;obtain⟨av,T⟩:=Ia hN hn;have bq:N<=20:=by omega
 have br:n<=44:=by omega
 have bt:a.length<=n:=by omega
 obtain⟨bk,bl,bm⟩:=Ib hV am al;clear hg hf S hw hN hn al hV am;go_enter func13,ntmps13;go_wp2_with fail;rw[bk.o];simp only[bl.o];go_fit (Qep a1 a2 a3 c1 c2 c3 R.length a.length hs.length V n2 n3);rintro e w1 ⟨rfl,U⟩;have en:((a.length:Int)+(hs.length:Int))=(n:Int):=by have:=T.o;omega
 rw[en];obtain⟨bu,G⟩:=Ia U (ar.o.trans (U.mono ar.o.size));have an:=au.o.below U au.o.lt;obtain⟨z0,-⟩:=zc an;obtain⟨g,ao⟩:=nm w1.heap.size;obtain⟨W1,W⟩:=nm (w1.alloc (.cells MC 103));have aw:O (GR W1 g g (List.replicate N (Value.slice none 0 0)) (List.replicate N [])):=Hi (by rw[<-W,<-bm.o,<-ao];exact GR.start w1 N);have ax:=Ua W;obtain⟨X,x,ay⟩:=Ib an ao W;clear U en an ao W;go_wp2_with fail;rw[ay.o];rw[x.o];clear z0 aq;go_loopw [5] (fun iv wr=>∃(k:Nat) (vs:Vv) (d:List (List RT)),k<=n/\iv=.int .i64 k/\GR wr g g vs d/\vs.length=N/\Bals (balM vb a.length vh) K 0 k d/\Below g w1 wr) (fun iv _=>n - (intOf iv).toNat)
 case atStart=>
  refine⟨0,_,_,Nat.zero_le _,rfl,aw.o,by simp,fun r ts hr=>?_,ax.o.mono (Nat.le_of_eq x.o.symm)⟩;obtain⟨_,rfl⟩:=List.mem_replicate.1 (mO hr);exact⟨by simp,fun c t hc=>by simp at hc⟩
 case round=>
  clear aw ax ay;obtain⟨k,vs,d,hk,rfl,H,I,J,D⟩:=hrel;obtain⟨l,y,B,E,L⟩:=Id H I J D (G.o.trans (D.mono (by have:=x.o;have:=G.o.size;omega)));clear H I J D;by_cases bn:k<n
  .
   have q1:(k:Int)<(n:Int):=by omega
   have HU:=Hi (Qgm n k wr ((HG.o.below L.o).glob) bn (by omega));go_wp2_with fail;go_fit HU.o;rintro e w2 ⟨gu,us,rfl,az,Y⟩;obtain⟨z,M,Z,s⟩:=Ic az (L.o.trans (Y.mono L.o.size)) (l.o.below Y) (E.o.trans (Y.mono (by have:=E.o.size;have:=x.o;omega)));clear az Y HU;have a0:=X.o.below s.o (by have:=X.o.lt;have:=x.o;omega);obtain⟨z0,z1,z2,-⟩:=zc a0;clear a0;obtain⟨A,hA,a4⟩:∃A:Addr,(if n=a.length then some (⟨gu,0,none⟩:Addr) else some ⟨gu,a.length,none⟩)=some A/\PRow w2 (some A) (us.drop a.length):=by
    by_cases e:n=a.length
    .
     refine⟨⟨gu,0,none⟩,by simp[e],?_⟩;rw[List.drop_of_length_le (by rw[z.o.len];omega)];exact PRow.nil _ _
    . exact⟨⟨gu,a.length,none⟩,by simp[e],z.o.drop⟩
   have a5:n - a.length=hs.length:=by have:=T.o;omega
   have a6:=Hi (fun u (hu:Bl w2 u)=>Qsv a1 a2 a3 (some ⟨gu,0,none⟩) (some A) c1 c2 c3 n hs.length 1 R a hs vb vh (us.take a.length) (us.drop a.length) (unitV k) u (((HG.o.below M.o).below hu).glob) ((HF.o.below M.o).below hu) HV.o HW.o (z.o.take.below hu) (by rw[List.length_take,z.o.len];omega) (a4.below hu) (by rw[List.length_drop,z.o.len];exact a5) (fun i t ht=>by
    rw[List.getElem?_take_of_lt (by have:=(gZ ht).1;rw[List.length_take] at this;omega)] at ht
    exact z.o.q i t ht) (fun i t ht=>by
    rw[List.getElem?_drop] at ht
    exact z.o.q _ t ht) (by decide))
   clear a4;go_wp2_with fail;go_region_held3 (fun v=>v.cell? ⟨B0,0,none⟩=some (.slice a1 R.length c1)/\v.cell? ⟨B0,1,none⟩=some (.slice a2 a.length c2)/\v.cell? ⟨B0,2,none⟩=some (.slice a3 hs.length c3)) ((first|(simp [*];done)|go_keep)) (first
    |(
     go_at_call_of 51 (Value.slice (some ⟨gu,0,none⟩) a.length n);apply cM;apply a6.o;(focus(repeat(first|exact Below.refl _ _|apply Qaq|apply Qar)));rintro e w3 ⟨N',ge,es,aa,rfl,F,ap⟩;rw[av.o] at aa;have aa:=aa.symm;subst aa;have f:=Hi F;have ab:O (Bl w2 w3):=Hi (by first|exact ap|exact(Below.refl _ _).drew.trans ap);have a7:O (w2.heap.size<=ge):=Hi F.low;clear F ap z0 z1 z2;have a8:=X.o.below (s.o.trans (ab.o.mono (by have:=s.o.size;have:=x.o;omega))) (by have:=X.o.lt;have:=x.o;omega);obtain⟨z0,z1,z2,-⟩:=zc a8;clear a8
     skip)
    |fail)
   all_goals
    clear z0 z1 z2 hA a5;obtain⟨a9,ad⟩:=Ia (Z.o.below ab.o) (s.o.trans (ab.o.mono (by have:=s.o.size;have:=x.o;omega)));have C:O (∀u,u∈ vs->u.ownBlock≠some ge):=Hi (fun u hu e=>by have:=(Z.o.own_ne hu e).2;have:=a7.o;omega);have ba:O (ge≠g):=Hi (fun e=>by have:=Z.o.blk.lt;have:=a7.o;omega);clear a6 z Z;go_wp2_with fail;go_loopw [37] (fun iv wr=>∃(i:Nat) (vs:Vv) (d:List (List RT)),i<=N/\iv=.int .i64 i/\GR wr g g vs d/\vs.length=N/\Bals (balM vb a.length vh) K i k d/\PV wr ge ge N 738197945 (fun r=>dot (a.length+hs.length) (balM vb a.length vh r) (unitV k)) es/\(∀u,u∈ vs->u.ownBlock≠some ge)/\Below g w1 wr) (fun iv _=>N - (intOf iv).toNat)
    case atStart=>exact⟨0,vs,d,Nat.zero_le _,rfl,a9.o,y.o,B.o,⟨f.o.blk,Nat.le_refl _,f.o.len,f.o.q⟩,C.o,ad.o⟩
    case round=>
     clear a9 ad C l y B f L M E s ab;obtain⟨i,vs,d,hi,rfl,H,I,J,F,ae,D⟩:=hrel;obtain⟨l,y,B,f,C,E⟩:=Ie H I J F ae D;clear H I J F ae D;by_cases bb:i<N
     .
      obtain⟨v,S⟩:∃v,vs[i]?=some v:=⟨_,gE (by rw[y.o];exact bb)⟩;obtain⟨ts,P,hp,x0,va,vc,rfl⟩:=l.o.get S;obtain⟨pb,pk,_,x1,hq,bc,_⟩:=f.o.get bb;have af:=(B.o i ts P).1;rw[if_neg (Nat.lt_irrefl _)] at af;obtain⟨v',w4,bd,x2,x3,⟨na,nc,bo⟩,ag,be,bf,bg⟩:=l.o.app S P hq (bc.mono hK) (by omega) (by omega) (by have:=l.o.low;have:=l.o.blk.lt;omega) 103;subst bo;obtain⟨ah,ai⟩:=bg ge C.o f.o.blk.blk.lt ba.o;have aj:=Hi ag;have bh:=Hi (be.setCell (p:=⟨g,i,none⟩) l.o.low (.slice na (ts.length+1) nc));have ak:O (PV _ ge ge N 738197945 _ es):=Hi ⟨⟨f.o.blk.blk.same ah,fun t ht=>⟨bf _ _ (f.o.blk.vs t ht).1,(f.o.blk.vs t ht).2⟩⟩,f.o.low,f.o.len,f.o.q⟩;have Q:=Hi ai
      have bi:=Hi (B.o.step (pb:=pb) P (show dot (a.length+hs.length) (balM vb a.length vh i) (unitV k)=balM vb a.length vh i k from Qe7 (by have:=T.o;omega) _));have bv:=Hi P;have q2:(i:Int)<(N:Int):=by omega
      obtain⟨tl,bj⟩:=nm ts.length;rw[bj] at x0 x2 bd aj ak Q bh;clear S hp hq bc af ag be bf bg ah ai P bj;go_wp2;go_roundw
      case rel=>
       refine⟨i+1,_,_,by omega,by go_num,aj.o,by rw[List.length_set];exact y.o,bi.o,ak.o,Q.o,E.o.trans bh.o⟩
      case measure=>simp[intOf];omega
     .
      obtain rfl:N=i:=by omega
      go_wp2;go_roundw
      case rel=>exact⟨k+1,vs,d,by omega,by go_num,l.o,y.o,B.o.next (by rw[l.o.len,y.o];exact Nat.le_refl _),E.o⟩
      case measure=>simp[intOf];omega
  .
   obtain rfl:n=k:=by omega
   go_wp2;go_ret;have bp:w.heap.size<=g:=by have:=x.o;have:=G.o.size;omega
   exact⟨N,g,vs,d,av.o.symm,rfl,l.o.mono bp,y.o,by rw[T.o];exact B.o,L.o⟩
theorem GR.pq{w:Vz}{B g W K N:Nat}{vs:Vv}{d:List (List RT)}{M:Nat->Vec}(h:GR w B g vs d)(n:Bals M K 0 W d)(o:0<W)(p:vs.length=N)(hB:B<=w.heap.size)(s:∀r c,W<=c->M r c=0):∃rs:List PR,rs.length=N/\PQ w w B g W K [] rs [] (.slice none 0 0)/\rs.map PR.q=(List.range N).map M:=by
 have e:∀(r:Nat) (f:List RT),d[r]?=some f->f.length=W/\∀(c:Nat) (t:RT),f[c]?=some t->t.2.1=M r c/\t.2.2=K:=fun r f a=>by
  have:=n r f a;rw[if_neg (Nat.not_lt_zero _)] at this;exact this
 obtain⟨rs,hl,m,u⟩:=h.pmat (fun f k=>by
  obtain⟨r,a⟩:=List.getElem?_of_mem k;rw[(e r f a).1]
  exact o)
 have b:∀(i:Nat) (r:PR),rs[i]?=some r->d[i]?=some r.ts:=fun i r a=>by
  rw[<-m,List.getElem?_map,a];rfl
 refine⟨rs,hl.trans p,⟨u,fun r a=>?_,fun r a t k=>?_,Grow.nil _ _ _ _ _,Below.refl _ _,hB⟩,?_⟩
 . obtain⟨i,j⟩:=List.getElem?_of_mem a
   exact(e i _ (b i r j)).1
 .
  obtain⟨i,j⟩:=List.getElem?_of_mem a;obtain⟨c,l⟩:=List.getElem?_of_mem k;exact((e i _ (b i r j)).2 c t l).2
 .
  apply List.ext_getElem?;intro i;rw[List.getElem?_map,List.getElem?_map];rcases Nat.lt_or_ge i N with j|j
  .
   obtain⟨r,a⟩:∃r,rs[i]?=some r:=⟨_,gE (by omega)⟩;obtain⟨x,v⟩:=e i _ (b i r a);rw[a,List.getElem?_range j];refine congrArg some (funext fun c=>?_)
   show ratV r.ts c=M i c
   rcases Nat.lt_or_ge c W with l|l
   .
    obtain⟨t,k⟩:∃t,r.ts[c]?=some t:=⟨_,gE (by omega)⟩;rw[Qkd k];exact(v c t k).1
   . rw[Qke (by omega),s i c l]
  . rw[List.getElem?_eq_none (by omega),List.getElem?_eq_none (by simpa using j)]
    rfl
theorem Qny{b K:Nat}(h:22*b+200<=K):(20+1)*(2 ^ b*(2*((20+1)*2 ^ b)) ^ 20)*2 ^ b<2 ^ K:=by
 have a:2*((20+1)*2 ^ b)<=2 ^ (b+6):=by
  rw[Nat.pow_add];have:0<2 ^ b:=Nat.pow_pos (by decide);omega
 have c:(2*((20+1)*2 ^ b)) ^ 20<=2 ^ ((b+6)*20):=by
  rw[Nat.pow_mul];exact Nat.pow_le_pow_left a 20
 have d:(20+1)*(2 ^ b*(2*((20+1)*2 ^ b)) ^ 20)*2 ^ b<=2 ^ 5*(2 ^ b*2 ^ ((b+6)*20))*2 ^ b:=
  Nat.mul_le_mul_right _ (Nat.mul_le_mul (by decide) (Nat.mul_le_mul_left _ c))
 refine Nat.lt_of_le_of_lt d ?_;rw[<-Nat.pow_add,<-Nat.pow_add,<-Nat.pow_add];exact Nat.pow_lt_pow_right (by decide) (by omega)
def IsTx(u:Value):Prop:=∃s,u=Value.string s
abbrev TG(w:Vz)(B:Nat)(v:Value)(ss:Vt):Prop:=Grow w B 54 1 IsTx v ss.length (textsV ss)
theorem TG.app{w:Vz}{B nb c:Nat}{v:Value}{a:Vt}{s:Vs}(h:TG w B v a)(k:w.cell? ⟨nb,0,none⟩=some (.string s))(y:a.length<=1000)(hB:B<=w.heap.size)(ty:Vr):
 ∃d w',appR prog 48 ty v (.slice (some ⟨nb,0,none⟩) 1 c) w=.ok d w'/\TG w' B d (a++ [s])/\Below B w w':=by
 obtain⟨i,l,m⟩:=Option.map_eq_some_iff.1 Qls;injection m with n e
 injection e with e o
 obtain⟨d,w',p,q,r,_⟩:=Grow.app h (P:=prog) (t:=48) (ty:=ty) underlying48 l n e o rfl (by decide) (fun u b=>⟨_,by simpa [Value.cells] using b⟩) ⟨nb,0,none⟩ 1 c [.string s] rfl (fun j u f=>by
  match j,f with
  |0,f=>
   obtain rfl:=Option.some.inj f
   exact k) (fun u b=>by obtain rfl:=List.mem_singleton.1 b;rfl) (fun u b=>by obtain rfl:=List.mem_singleton.1 b;exact⟨_,rfl⟩) (by omega) (by decide) hB
 refine⟨d,w',p,?_,Qb4 r (fun g x=>(h.lt x).1) hB⟩
 show Grow _ _ _ _ _ _ (a++ [s]).length (textsV (a++ [s]))
 rw[List.length_append,List.length_singleton,textsV,List.map_append];exact q
theorem TG.tlst{w:Vz}{B:Nat}{v:Value}{b:Vt}(h:TG w B v b):∃a cap,v=.slice a b.length cap/\TLst w a b:=by
 obtain⟨a,cap,e,_,c,_⟩:=Grow.slice h;exact⟨a,cap,e,fun i s d=>c.cell i (.string s) (by simp[textsV,d])⟩
theorem Ql7(a:Vx)(cap n K:Nat)(A:List RT)(w:Vz)(W:∃m,w.cell? ⟨4,0,none⟩=some (.int .i64 m))(h:PRow w a A)(hk:∀t,t∈ A->t.2.2<=K)(hK:K<274877906000)(X:A.length=n)(hl:n<=1000):
 Calls prog 54 #[.slice a n cap] w fun e w'=>∃(v:Value) (r:Vt),e=.returned v/\TG w' w.heap.size v r/\r.length=n/\(∀(i:Nat) (t:RT) (s:Vs),A[i]?=some t->r[i]?=some s->QText s.data.toList t.2.1)/\Below w.heap.size w w':=by
 obtain⟨Z,O,HK,HN⟩:=Ic h (RBag.start W) hk X;clear h W hk X;go_enter func54,ntmps54;go_wp2_with fail;go_loopw [3,8] (fun ov P wr=>∃(k:Nat) (r:Vt),k<=n/\P=.int .i64 k/\TG wr w.heap.size ov r/\r.length=k/\(∀(i:Nat) (t:RT) (s:Vs),A[i]?=some t->r[i]?=some s->QText s.data.toList t.2.1)/\Below w.heap.size w wr) (fun _ P _=>n - (intOf P).toNat)
 case atStart=>exact⟨0,[],Nat.zero_le _,rfl,Grow.nil _ _ _ _ _,rfl,fun i t s _ hs=>by simp at hs,Below.refl _ _⟩
 case round=>
  obtain⟨k,r,hk,rfl,y,C,g,D⟩:=hrel;obtain⟨E,d,F,f⟩:=Ic y C g D;obtain⟨oa,oc,Q,_⟩:=TG.tlst y;subst Q;clear y C g D;by_cases aa:k<n
  .
   obtain⟨t,G⟩:∃t,A[k]?=some t:=⟨_,gE (by have:=HN.o;omega)⟩;obtain⟨b,ab,rfl,hb,x0⟩:=(Z.o.below f.o).at G;have R:=HK.o t (mO G);have HT:=Hi (RBag.text (bx:=t.1) (p:=t.2.1) (j:=t.2.2) ((Z.o.below f.o).bag ((O.o.below f.o).glob)) (mO G) (by omega));have q1:((k:Int)<(n:Int)):=by omega
   have S:=Hi G;clear G R;go_wp2_with fail;go_fit HT.o;rintro e B ⟨⟨s,rfl,hs⟩,l⟩;have z:=Hi (f.o.trans (l.base.mono f.o.size));have x:=Grow.below E.o l.base;have HS:=Hi hs;obtain⟨Y,N⟩:=nm (B.alloc (.cells #[.string s] 54));have u:Bl B Y:=by rw[<-N];exact(Below.refl _ _).alloc lZ _
   have H:Y.cell? ⟨B.heap.size,0,none⟩=some (.string s):=by rw[<-N];exact Qa0 B _ _
   obtain⟨v',w',I,J,L⟩:=TG.app (Grow.below x u) (s:=s) (nb:=B.heap.size) (c:=1) H (by have:=d.o;omega) (Nat.le_trans z.o.size u.size) 48;rw[<-N] at I;obtain⟨T,U⟩:=Ia J ((z.o.trans (u.mono z.o.size)).trans L);clear hs l x N u H J L HT x0;go_wp2;go_roundw
   case rel=>
    refine⟨k+1,r++ [s],by omega,by go_num,T.o,by simp[d.o],fun i t' s' M q=>?_,U.o⟩;rcases Nat.lt_or_ge i k with hi|hi
    . rw[List.getElem?_append_left (by have:=d.o;omega)] at q
      exact F.o i t' s' M q
    .
     have V:=(gZ q).1;rw[List.length_append,d.o,List.length_singleton] at V;obtain rfl:i=k:=by omega
     rw[List.getElem?_append_right (by have:=d.o;omega),d.o,Nat.sub_self] at q;obtain rfl:=Option.some.inj q;obtain rfl:=Option.some.inj (S.o.symm.trans M);exact HS.o
   case measure=>simp[intOf];omega
  .
   obtain rfl:n=k:=by omega
   go_wp2;go_ret;exact⟨_,r,rfl,E.o,d.o,F.o,f.o⟩
def StressSays(nb:Nat)(ts:List RT)(w:Vz)(e:Ending)(w':Vz):Prop:=∃(v1 v2:Value) (x y:Vt),e=.returned (.agg #[v1,v2])/\TG w' w.heap.size v1 x/\TG w' w.heap.size v2 y/\x.length=nb/\y.length=ts.length - nb/\(∀(i:Nat) (t:RT) (s:Vs),(ts.take nb)[i]?=some t->x[i]?=some s->QText s.data.toList t.2.1)/\(∀(i:Nat) (t:RT) (s:Vs),(ts.drop nb)[i]?=some t->y[i]?=some s->QText s.data.toList t.2.1)/\Below w.heap.size w w'
theorem PRow.take{w:Vz}{a:Vx}{c:List RT}(h:PRow w a c)(n:Nat):PRow w a (c.take n):=
 ⟨⟨fun j u b=>by
   rw[List.map_take] at b;have hl:=(gZ b).1;rw[List.length_take] at hl;rw[List.getElem?_take_of_lt (by omega)] at b
   exact h.row.cell j u b⟩,fun t d=>h.vs t (List.mem_of_mem_take d)⟩
theorem PRow.drop{w:Vz}{g a:Nat}{c:List RT}(h:PRow w (some ⟨g,a,none⟩) c)(n:Nat):PRow w (some ⟨g,a+n,none⟩) (c.drop n):=
 ⟨⟨fun j u d=>by
   rw[List.map_drop,List.getElem?_drop] at d;obtain⟨b,o,e,f,i⟩:=h.row.cell (n+j) u d;injection e with e
   injection e with k l p
   subst k l
   exact⟨g,a+n,rfl,f,by rw[Nat.add_assoc];exact i⟩⟩,fun t m=>h.vs t (List.mem_of_mem_drop m)⟩
theorem TG.other{w:Vz}{B b i:Nat}{t:Vr}{C:Vw}{v x:Value}{a:Vt}(h:TG w B v a)(hs:SB w b t C)(d:54≠t):TG (w.setCell ⟨b,i,none⟩ x) B v a:=
 Grow.keep h fun g e=>by
  obtain⟨D,c,_⟩:=Grow.sb h e;exact((Only.refl b w).setCell i x).block g c.lt (c.unlike hs d)
theorem Qxr(M N:Value)(P:Vx)(c2 nb g cap n K:Nat)(s:List RT)(w:Vz)(Q:∃m,w.cell? ⟨4,0,none⟩=some (.int .i64 m))(h:PRow w (some ⟨g,0,none⟩) s)(hk:∀t,t∈ s->t.2.2<=K)(hK:K<274877906000)(hl:n<=1000)(C:s.length=n)(hn:nb<=n)(R:n<=cap)(o1:M.oneCell'=true)(o3:N.oneCell'=true):
 Calls prog 17 #[.agg #[M,.slice P nb c2,N],.slice (some ⟨g,0,none⟩) n cap] w (StressSays nb s w):=by
 have l1:(s.take nb).length=nb:=by rw[List.length_take];omega
 have l2:(s.drop nb).length=n - nb:=by rw[List.length_drop];omega
 obtain⟨A,hA,D⟩:∃A:Addr,(if cap=nb then some (⟨g,0,none⟩:Addr) else some ⟨g,nb,none⟩)=some A/\PRow w (some A) (s.drop nb):=by
  by_cases e:cap=nb
  .
   refine⟨⟨g,0,none⟩,by simp[e],?_⟩;have:s.drop nb= []:=List.drop_of_length_le (by omega);rw[this];exact⟨⟨fun j u hj=>by simp at hj⟩,fun t E=>by cases E⟩
  . exact⟨⟨g,nb,none⟩,by simp[e],by simpa using h.drop nb⟩
 obtain⟨S,T,U⟩:=Ib (fun u (F:Bl w u)=>Ql7 (some ⟨g,0,none⟩) cap nb K (s.take nb) u (((RBag.start Q).below F).glob) ((h.take nb).below F) (fun t E=>hk t (List.mem_of_mem_take E)) hK l1 (by omega)) (fun u (F:Bl w u)=>Ql7 (some A) (cap - nb) (n - nb) K (s.drop nb) u (((RBag.start Q).below F).glob) (D.below F) (fun t E=>hk t (List.mem_of_mem_drop E)) hK l2 (by omega)) C;clear h Q hk D l1 l2 C;go_enter func17,ntmps17;obtain⟨V,G⟩:=nm ((w.alloc (.cells #[M,.slice P nb c2,N] 26)).alloc (.cells #[.slice none 0 0,.slice none 0 0] 50));have z:=Ub G;have k:=Ud G
 have a:=Ue G;have HV:=Hi G;clear G;have W:nb<=cap:=by omega
 have X:=R;obtain⟨-,x1,-⟩:=zc k.o;have b:O (Bl V V):=Hi bR;go_wp2_with fail;rw[HV.o];go_region_held3 (fun v=>v.cell? ⟨w.heap.size,1,none⟩=some (.slice P nb c2)) ((first|(simp [*];done)|go_keep)) (first
  |(
   go_at_call_of 54 (Value.slice (some ⟨g,0,none⟩) nb cap);apply cM;apply S.o;(focus(repeat(first|exact z.o|apply Qaq|apply Qar)));rintro e1 Y ⟨v1,x,rfl,c,l,q,d⟩;obtain⟨B,i⟩:=Ia (z.o.trans (Below.mono (by first|exact d|exact(Below.refl _ _).drew.trans d) z.o.size)) (b.o.trans (Below.mono (by first|exact d|exact(Below.refl _ _).drew.trans d) b.o.size));clear b;have b:=i;have H:=Hi (Grow.mono c z.o.size);have ag:O (Below _ _ Y):=Hi (by first|exact d|exact(Below.refl _ _).drew.trans d);obtain⟨Z,aa⟩:=Ia l q;obtain⟨p1,W,ab,_⟩:=TG.tlst c;subst ab;clear c l q d x1;obtain⟨-,x1,-⟩:=zc (k.o.below i.o k.o.lt);obtain⟨r0,-⟩:=zc (a.o.below i.o a.o.lt)
   obtain⟨-,r1,-⟩:=zc (a.o.below i.o a.o.lt);have f0:=(a.o.below i.o a.o.lt).free 0;have f1:=(a.o.below i.o a.o.lt).free 1
   skip)
  |(
   go_at_call_of 54 (Value.slice (some A) (n - nb) (cap - nb));apply cM;apply T.o;(focus(repeat(first|exact B.o|apply Qaq|apply Qar)));rintro e2 w2 ⟨v2,y,rfl,c,l,q,d⟩;obtain⟨ad,f⟩:=Ia (B.o.trans (Below.mono (by first|exact d|exact(Below.refl _ _).drew.trans d) B.o.size)) (b.o.trans (Below.mono (by first|exact d|exact(Below.refl _ _).drew.trans d) b.o.size));clear b;have b:=f;have I:=Hi (Grow.mono c B.o.size);have J:O (Below _ _ w2):=Hi (by first|exact d|exact(Below.refl _ _).drew.trans d);obtain⟨ae,af⟩:=Ia l q;obtain⟨p2,X,hv2,_⟩:=TG.tlst c;subst hv2;clear c l q d x1;obtain⟨-,x1,-⟩:=zc (k.o.below f.o k.o.lt);obtain⟨r0,-⟩:=zc (a.o.below f.o a.o.lt)
   obtain⟨-,r1,-⟩:=zc (a.o.below f.o a.o.lt);have f0:=(a.o.below f.o a.o.lt).free 0;have f1:=(a.o.below f.o a.o.lt).free 1
   skip)
  |fail)
 all_goals
  go_wp2;have r:=a.o.below f.o a.o.lt;refine bodyPost_ret (v:=.agg #[.slice p1 x.length W,.slice p2 y.length X]) (results_cell_row rfl _ _ (w.heap.size+1) 50 #[.slice p1 x.length W,.slice p2 y.length X] (0,0) _ rfl ((r.set 0 _).set 1 _) underlying50 rfl Tryz.stressInfo) rfl ?_;have L:w.heap.size<=w.heap.size+1:=Nat.le_succ _;refine⟨_,_,x,y,rfl,?_,?_,Z.o,by rw[ae.o,U.o],aa.o,af.o,(ad.o.setCell (p:=⟨w.heap.size+1,0,none⟩) L _).setCell (p:=⟨w.heap.size+1,1,none⟩) L _⟩
  . have h1:=Grow.below H.o (show Below Y.heap.size Y w2 from J.o)
    exact TG.other (TG.other h1 r (by decide)) (r.set 0 _) (by decide)
  . exact TG.other (TG.other I.o r (by decide)) (r.set 0 _) (by decide)
end Go.Proofs.YtppkmifkpjkgpaaGreatDoor
