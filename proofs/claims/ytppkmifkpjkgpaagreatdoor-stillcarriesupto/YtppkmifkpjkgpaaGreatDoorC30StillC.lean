import Derived.Test.YtppkmifkpjkgpaaGreatDoorC29Minors
namespace Go.Proofs.YtppkmifkpjkgpaaGreatDoor
open Go.RowKit
open Go.Proofs.Tryz
set_option linter.unusedSimpArgs false
set_option linter.unusedVariables false
set_option maxHeartbeats 8000000
set_option maxRecDepth 1000000
theorem Qvb(B W K:Nat)(S:List MR)(b:Vy)(sv hv:Value)(wd:Int)(w:Vz)(hr:Grow w B 93 1 IsSl sv S.length (S.map MR.val))(hh:Grow w B 3 1 IsI hv b.length (headsV b))(a7:Oks w W K S)(ag:S.length=b.length)(a8:∀h,h∈ b->h<W)(ah:clnFits K (S.map MR.q) b)(ct:S.length<=1000)(hW:W<=1000)(a9:0<K)(hK:4*K+1<68719476000):
 Calls prog 84 #[.agg #[.int .i64 wd,sv,hv]] w fun e w'=>e=.returned (.tuple #[])/\∃S':List MR,S'.length=S.length/\S'.map MR.q=cln (S.map MR.q) b/\CW w w' B W K S' b (.int .i64 wd) sv hv:=by
 obtain⟨a,cap,rfl,_,_,ai⟩:=hr.slice;obtain⟨a2,D,rfl,_,_,_⟩:=hh.slice;obtain⟨HR,HH,HO,HL,ba,HF,HP⟩:=If hr hh a7 ag a8 ah ai;clear hr hh a7 ag a8 ah ai;go_enter func84,ntmps84;obtain⟨V,hV⟩:=nm (w.alloc (.cells #[.int .i64 wd,.slice a S.length cap,.slice a2 b.length D] 135));have s:Below w.heap.size w V:=by rw[<-hV];exact(Below.refl _ _).alloc lZ _
 have bv:O (CW w V B W K S b (.int .i64 wd) (.slice a S.length cap) (.slice a2 b.length D)):=Hi ⟨by rw[<-hV];exact SB.new w _ _,HR.o.below s,HH.o.below s,HO.o.fr (Fr.of_below s),fun k hk _=>s.block k hk,s.os,s.tape,s.output,s.size⟩;have HV:=Hi hV;clear hV s;go_wp2_with fail;rw[HV.o];go_loopw [2] (fun i wr=>∃(k:Nat) (A:List MR),k<=S.length/\i=.int .i64 ((k:Int) - 1)/\A.length=S.length/\(∀p,p<k->A[p]?=S[p]?)/\(A.drop k).map MR.q=cln ((S.map MR.q).drop k) (b.drop k)/\CW w wr B W K A b (.int .i64 wd) (.slice a S.length cap) (.slice a2 b.length D)) (fun i _=>(intOf i+1).toNat)
 case atStart=>
  refine⟨S.length,S,Nat.le_refl _,by go_num,rfl,fun _ _=>rfl,?_,bv.o⟩;rw[List.drop_of_length_le lZ,List.drop_of_length_le (by simp)];rfl
 case round=>
  obtain⟨k,A,hk,rfl,bb,aj,bc,hC⟩:=hrel;obtain⟨l,ak,bd,E⟩:=Ic hC aj bc bb;clear hC aj bc bb;by_cases h0:k=0
  .
   subst h0;go_wp2;go_end0;exact⟨rfl,A,E.o,by have:=bd.o;simpa using this,l.o⟩
  .
   obtain⟨j,rfl⟩:∃j,k=j+1:=⟨k - 1,by omega⟩;have ej:((j+1:Nat):Int) - 1=(j:Int):=by omega
   rw[ej];clear ej h0;obtain⟨g,rfl,bw⟩:=HP.o (by omega);clear bw;obtain⟨r,hr⟩:∃r,S[j]?=some r:=⟨S[j]'(by omega),gE (by omega)⟩;obtain⟨h,hh⟩:∃h,b[j]?=some h:=⟨b[j]'(by have:=HL.o;omega),gE (by have:=HL.o;omega)⟩;have cu:h<W:=ba.o h (mO hh);have Y:A[j]?=some r:=by rw[ak.o j (by omega)];exact hr
   obtain⟨be,G⟩:=Qva HL.o hr hh bd.o HF.o;obtain⟨bx,bf⟩:=Ia be G;have n:=l.o.ok r (mO Y);have C:=n.len;obtain⟨e,he⟩:∃e,r.ts[h]?=some e:=⟨r.ts[h]'(by omega),gE (by omega)⟩;obtain⟨rb,ro,Z,bz,d0,d1,d2⟩:=n.row.at he;obtain⟨hv,bg,b3⟩:=n.row.get he;have cv:=n.sz e (mO he);obtain⟨hb,ho,rfl,b4,c2⟩:=l.o.heads.crow.cell j (.int .i64 (h:Nat)) (by simp[headsV,hh]);have c1:wr.cell? ⟨g,j,none⟩=some (.slice r.a r.ts.length r.cap):=l.o.rows.cell (by rw[List.getElem?_map,Y];rfl);rw[Z,C] at c1;obtain⟨-,x1,x2,-⟩:=zc l.o.box;have q1:((j:Int)<(S.length:Int)):=by omega
   have q2:((j:Int)<(b.length:Int)):=by have:=HL.o;omega
   have q3:((h:Int)<(W:Int)):=by omega
   obtain⟨bh,cw,HE,b5,b6⟩:=Id n Z (MR.q_at he) hv bg;have ar:=Hi (fun u (hu:Below wr.heap.size wr u)=>Quj r.a r.cap (2*K) e.k r.ts e.x e.y e.z e.q u (bh.o.row.below hu) (by omega) (b5.o.below hu) b6.o b3 (fun t ht=>by have:=bh.o.sz t ht;omega) (by omega));rw[C,Z] at ar;have b7:=Hi Y;clear hr hh Y be G n he Z hv bg;go_wp2_with fail;go_region_held3 (fun v=>v.cell? ⟨w.heap.size,1,none⟩=some (.slice (some ⟨g,0,none⟩) S.length cap)/\v.cell? ⟨w.heap.size,2,none⟩=some (.slice (some ⟨hb,ho,none⟩) b.length D)/\v.cell? ⟨g,j,none⟩=some (.slice (some ⟨rb,ro,none⟩) W r.cap)/\v.cell? ⟨hb,ho+j,none⟩=some (.int .i64 h)/\v.cell? ⟨rb,ro+h*3,none⟩=some e.x/\v.cell? ⟨rb,ro+h*3+1,none⟩=some e.y/\v.cell? ⟨rb,ro+h*3+2,none⟩=some e.z) ((first|(simp [*];done)|go_keep)) (first
    |(
     go_at_call 136;apply cM;apply ar.o;(focus(repeat(first|exact Below.refl _ _|apply Qav|apply Qaw)));rintro e5 w5 ⟨⟨g5,us,rfl,b8,au,M⟩,av⟩;(first
       |have J:O (Below wr.heap.size wr w5):=Hi av
       |have J:O (Below wr.heap.size wr w5):=Hi (bR.drew.trans av))
     obtain⟨aa,ab⟩:=Ia au M;obtain⟨y1,y2⟩:=Ja J.o l.o.box.lt x1 x2;have y3:=(J.o.cell (p:=⟨g,j,none⟩) (l.o.rows.lt (g:=g) rfl).2).trans c1;have y4:=ce J.o b4 c2;obtain⟨y5,y6,y7⟩:=Jb J.o bz d0 d1 d2;clear au M av b8
     skip)
    |fail)
   clear x1 x2 c1 c2 d0 d1 d2 y1 y2 y3 y4 y5 y6 y7;have b9:=Hi (l.o.below J.o);obtain⟨r0,al,N,am⟩:=MOk.made (v:=fun i=>r.q i / r.q h) (K:=K) aa.o C (by rw[C];exact ab.o) a9 (fun i hi=>by rw[HE.o]) (fun i hi=>by
    show r.q i / r.q h=0
    rw[MR.q_beyond (by omega)]
    exact Qu7 _) (fun i _=>bf.o.here i)
   obtain⟨bi,an,bj⟩:=Ib N am al;clear N am al aa ab ar l;have P:Value.slice (some ⟨g5,0,none⟩) W W=.slice r0.a W r0.cap:=by
    have:=bj.o;unfold MR.val at this;rw[bi.o.len] at this;exact this.symm
   rw[P];clear P;go_wp2_with fail;go_loopw [3,4] (fun rv i wq=>∃(m:Nat) (c:MR),j+1<=m/\m<=S.length/\i=.int .i64 m/\rv=.slice c.a W c.cap/\MOk wq W K c/\CW w wq B W K A b (.int .i64 wd) (.slice (some ⟨g,0,none⟩) S.length cap) (.slice (some ⟨hb,ho,none⟩) b.length D)/\red c.q ((A.drop m).map MR.q) (b.drop m)=red (fun i=>r.q i / r.q h) ((A.drop (j+1)).map MR.q) (b.drop (j+1))/\redFits K c.q ((A.drop m).map MR.q) (b.drop m)) (fun _ i _=>S.length - (intOf i).toNat)
   case atStart=>exact⟨j+1,r0,Nat.le_refl _,hk,by go_num,rfl,bi.o,b9.o,by rw[an.o],by rw[an.o];exact bf.o⟩
   case round=>
    obtain⟨m,c,cx,hm,rfl,rfl,F,hC,ao,bk⟩:=hrel;obtain⟨l,ad,Q,bl⟩:=Ic hC F ao bk;clear hC ao bk;by_cases cy:m<S.length
    .
     obtain⟨t,ht⟩:∃t,A[m]?=some t:=⟨A[m]'(by have:=E.o;omega),gE (by have:=E.o;omega)⟩;obtain⟨d,ae⟩:∃d,b[m]?=some d:=⟨b[m]'(by have:=HL.o;omega),gE (by have:=HL.o;omega)⟩;have R:=l.o.ok t (mO ht);have cz:d<W:=ba.o d (mO ae);have aw:=F.len;have ca:=R.len;obtain⟨f,hf⟩:∃f,c.ts[d]?=some f:=⟨c.ts[d]'(by omega),gE (by omega)⟩;obtain⟨qb,qo,ax,au,d0,d1,d2⟩:=F.row.at hf;obtain⟨ay,ap,bm⟩:=F.row.get hf;have c0:=F.sz f (mO hf);obtain⟨o1,o2,o3⟩:=ay.one;have s0:=Qa2 prog o1;have s1:=Qa2 prog o2;have s2:=Qa2 prog o3;obtain⟨c3,c4,cb,cs,c2⟩:=l.o.heads.crow.cell m (.int .i64 (d:Nat)) (by simp[headsV,ae]);cases cb
     have c1:wr.cell? ⟨g,m,none⟩=some (.slice t.a t.ts.length t.cap):=l.o.rows.cell (by rw[List.getElem?_map,ht];rfl);rw[ca] at c1;have bn:g<wr.heap.size:=(l.o.rows.lt (g:=g) rfl).2;have cc:=l.o.box.lt;obtain⟨-,x1,x2,-⟩:=zc l.o.box;have q4:((m:Int)<(S.length:Int)):=by omega
     have q5:((m:Int)<(b.length:Int)):=by have:=HL.o;omega
     have q6:((d:Int)<(W:Int)):=by omega
     obtain⟨HT,cd,bo,bp,bq,az,a0⟩:=If R ax (MR.q_at hf) ay ap (Qde ht) (Qde ae);have br:=Hi (fun u (hu:Below wr.heap.size wr u)=>Qgv c.a t.a c.cap t.cap (4*K+1) f.k c.ts t.ts f.x f.y f.z f.q u (ad.o.row.below hu) (HT.o.row.below hu) (by omega) (by omega) (bp.o.below hu) bq.o bm (fun x hx y hy=>by have:=ad.o.sz x hx;have:=HT.o.sz y hy;omega) (by omega));rw[aw] at br;obtain⟨cf,X1⟩:=Ia c1 x1;rw[ax];obtain⟨V2,af⟩:=nm (wr.alloc (.cells #[f.x,f.y,f.z] 141));have a1:=Ua af;have bs:=Uc af;have cg:=Hi af;clear ht ae R hf ax ay ap af o1 o2 o3 F;go_wp2_with fail;rw[cg.o];go_fit (Qcf (bp.o.below a1.o))
     rintro e' w4 ⟨rfl,a3⟩;have L:=Hi (a1.o.trans (a3.mono a1.o.size));obtain⟨a4,ch,a5⟩:=Ib (l.o.below L.o) (ad.o.fr (Fr.of_below L.o)) (bs.o.below a3 bs.o.lt);clear a3 c1 c2 d0 d1 d2 s0 s1 s2 x1 x2;rw[<-cd.o];by_cases h0:f.q=0
     .
      rw[decide_eq_true h0];have HZ:O (c.q d=0):=Hi (bo.o.trans h0);clear h0;go_wp2;go_roundw
      case rel=>
       have h1:=Q.o;have h2:=bl.o;rw[az.o,a0.o,List.map_cons] at h1 h2;rw[Qu9 HZ.o] at h1;exact⟨m+1,c,by omega,by omega,by go_num,rfl,ch.o,a4.o,h1,h2.skip HZ.o⟩
      case measure=>simp[intOf];omega
     .
      rw[decide_eq_false h0];clear h0;obtain⟨-,y1,-⟩:=zc a4.o.box;have y2:=ce L.o bn cf.o;obtain⟨b0,b1,b2,-⟩:=zc a5.o;obtain⟨Y1,Y2⟩:=Ia y1 y2;have bt:g<w4.heap.size:=Nat.lt_of_lt_of_le bn L.o.size;have bu:w.heap.size<w4.heap.size:=Nat.lt_of_lt_of_le cc L.o.size;go_wp2_with fail;go_region_held3 (fun v=>v.cell? ⟨w.heap.size,1,none⟩=some (.slice (some ⟨g,0,none⟩) S.length cap)/\v.cell? ⟨g,m,none⟩=some (.slice t.a W t.cap)/\v.cell? ⟨wr.heap.size,0,none⟩=some f.x/\v.cell? ⟨wr.heap.size,1,none⟩=some f.y/\v.cell? ⟨wr.heap.size,2,none⟩=some f.z) ((first|(simp [*];done)|go_keep)) (first
       |(
        go_at_call 128;apply cM;apply br.o;(focus(repeat(first|exact L.o|apply Qav|apply Qaw)));rintro e6 w6 ⟨⟨g6,us,rfl,ci,aq,M⟩,a6⟩;(first
          |have T:O (Below w4.heap.size w4 w6):=Hi a6
          |have T:O (Below w4.heap.size w4 w6):=Hi (bR.drew.trans a6))
        obtain⟨aa,ab,cj⟩:=Ib aq M (a5.o.below T.o a5.o.lt);have z1:=ce T.o bu Y1.o;have z2:=ce T.o bt Y2.o;obtain⟨z3,z4,z5,-⟩:=zc cj.o;clear aq M a6 ci
        skip)
       |fail)
      all_goals
       clear y1 y2 b0 b1 b2 z1 z2 z3 z4 z5;have G:=bl.o;rw[az.o,a0.o,List.map_cons] at G;obtain⟨r6,I,H,U⟩:=MOk.made (v:=fun i=>c.q i - t.q i*c.q d) (K:=K) aa.o aw (by rw[aw];exact ab.o) a9 (fun i hi=>by
        show c.q i - qAt t.ts i*f.q=_
        rw[qAt_q,bo.o]) (fun i hi=>by
        show c.q i - t.q i*c.q d=0
        rw[MR.q_beyond (r:=c) (by omega),MR.q_beyond (r:=t) (by omega)]
        exact Qu8 _) (fun i _=>G.next.here i)
       have X:Value.slice (some ⟨g6,0,none⟩) W W=.slice r6.a W r6.cap:=by
        unfold MR.val at I;rw[H.len] at I;exact I.symm
       have ck:O (red r6.q ((A.drop (m+1)).map MR.q) (b.drop (m+1))=red (fun i=>r.q i / r.q h) ((A.drop (j+1)).map MR.q) (b.drop (j+1))):=Hi (by
        have h1:=Q.o;rw[az.o,a0.o,List.map_cons] at h1;rw[U]
        exact h1)
       have cl:O (redFits K r6.q ((A.drop (m+1)).map MR.q) (b.drop (m+1))):=Hi (by rw[U];exact G.next);obtain⟨cm,cn⟩:=Ia H X;clear G I H U X;go_wp2_with fail;refine⟨⟨m+1,r6,by omega,by omega,by go_num,cn.o,cm.o,a4.o.below T.o,ck.o,cl.o⟩,?_⟩;simp[intOf];omega
    .
     have cp:m=S.length:=by omega
     subst cp;have er:c.val=.slice c.a W c.cap:=by unfold MR.val;rw[F.len]
     have hq:c.q=red (fun i=>r.q i / r.q h) ((A.drop (j+1)).map MR.q) (b.drop (j+1)):=by
      have h1:=Q.o;rw[List.drop_of_length_le (by rw[E.o];exact Nat.le_refl _)] at h1
      simpa [red] using h1
     obtain⟨cq,HQ⟩:=Ia er hq;obtain⟨-,x1,-⟩:=zc l.o.box;have f0:=l.o.rows.free j;have t0:wr.cell? ⟨g,j,none⟩=some r.val:=l.o.rows.cell (by rw[List.getElem?_map,b7.o];rfl);clear er hq F;go_wp2_with fail;refine⟨⟨j,A.set j c,by omega,by go_num,by rw[List.length_set];exact E.o,fun p hp=>?_,?_,?_⟩,?_⟩
     . rw[List.getElem?_set_ne (by omega)]
       exact ak.o p (by omega)
     .
      have cr:j<A.length:=by have:=E.o;omega
      rw[Qde (List.getElem?_set_self cr),List.drop_set,if_pos (by omega),List.map_cons,HQ.o];exact bx.o.symm
     . rw[<-cq.o]
       exact l.o.set E.o.symm (by have:=E.o;omega) ad.o
     . simp[intOf]
theorem Qlh:(prog.info? 54).map (fun i=>(i.zero,i.size,i.bytes))=some (some (.string ⟨#[]⟩),1,16):=by kernel_rfl
def textsV(ss:Vt):List Value:=ss.map Value.string
theorem Qvj(n:Nat):madeCells (Value.cells (.string ⟨#[]⟩)) n=(textsV (List.replicate n ⟨#[]⟩)).toArray:=by
 have e:Value.cells (.string ⟨#[]⟩)=#[.string ⟨#[]⟩]:=by rfl
 rw[e];apply Array.ext';rw[toList_madeCells_one];simp[textsV]
theorem Qvk(n:Nat)(e:n<=1048576)(w:Vz):(Instr.makeSlice 48 (.int .i64 n) (.int .i64 n)).run prog w=.ok (.slice (some ⟨w.heap.size,0,.none⟩) n n) (w.alloc (.cells (textsV (List.replicate n ⟨#[]⟩)).toArray 54)):=by
 obtain⟨i,a,h⟩:=Option.map_eq_some_iff.1 Qlh;simp only[Prod.mk.injEq] at h;obtain⟨b,c,d⟩:=h;have:=run_make w 48 54 i _ underlying48 a b .i64 .i64 n n (by omega) (by omega) (by rw[d];omega) (by omega);rw[Int.toNat_natCast,c,Nat.mul_one,Qvj] at this;exact this
theorem Qvl(a:Vt)(k:Nat)(s:Vs):textsV (a.set k s)=(textsV a).set k (.string s):=by simp[textsV]
theorem Qli(a:Vx)(cap K:Nat)(ts:List FE)(w:Vz)(j:Glob w)(h:QRow w a cap ts)(hk:∀t,t∈ ts->t.k<=K)(hK:K<=274877906944)(hl:ts.length<=1000):
 Calls prog 87 #[.slice a ts.length cap] w fun e w'=>(∃(g:Nat) (b:Vt),e=.returned (.slice (some ⟨g,0,none⟩) ts.length ts.length)/\(b.length=ts.length/\w.heap.size<=g)/\SB w' g 54 (textsV b).toArray/\∀(i:Nat) (t:FE) (s:Vs),ts[i]?=some t->b[i]?=some s->QText s.data.toList t.q)/\Below w.heap.size w w':=by
 obtain⟨X,G,HK⟩:=Ib h j hk;have z:=fun w=>Qvk ts.length (by omega) w
 obtain⟨MC,n⟩:=nm ((textsV (List.replicate ts.length ⟨#[]⟩)).toArray);rw[n] at z;have H:=Hi n;clear h j hk n;go_enter func87,ntmps87;go_wp2_with fail;clear z;obtain⟨g,j⟩:=nm w.heap.size;obtain⟨V,E⟩:=nm (w.alloc (.cells MC 54));have I:O (Below g w V):=Hi (by rw[<-E,<-j];exact(Below.refl _ _).alloc lZ _);have J:O (SB V g 54 (textsV (List.replicate ts.length ⟨#[]⟩)).toArray):=Hi (by rw[<-E,<-j,H.o];exact SB.new w _ _)
 try rw[E]
 try rw[j]
 clear E;go_loopw [10] (fun i wr=>∃(k:Nat) (b:Vt),k<=ts.length/\i=.int .i64 k/\b.length=ts.length/\SB wr g 54 (textsV b).toArray/\(∀(i:Nat) (t:FE) (s:Vs),i<k->ts[i]?=some t->b[i]?=some s->QText s.data.toList t.q)/\Below g w wr) (fun i _=>ts.length - (intOf i).toNat)
 case atStart=>exact⟨0,_,by omega,rfl,by simp,J.o,fun i t s hi=>by omega,I.o⟩
 case round=>
  obtain⟨k,b,hk,rfl,A,r,l,Y⟩:=hrel;obtain⟨L,u,Z⟩:=Ib Y r l;have M:=r.lt;have c:=Hi A;clear Y r l A;by_cases N:k<ts.length
  .
   obtain⟨t,m⟩:∃t,ts[k]?=some t:=⟨ts[k],gE N⟩;have f:Below w.heap.size w wr:=by rw[j];exact L.o
   obtain⟨fb,aa,rfl,ab,d0,d1,d2⟩:=(X.o.below f).at m;obtain⟨B,P,Q⟩:=Ib ((X.o.below f).get m) (HK.o t (mO m)) (G.o.below f);have q1:((k:Int)<(ts.length:Int)):=by omega
   have HT:=Hi m;obtain⟨R,C⟩:∃R,b[k]?=some R:=⟨b[k]'(by have:=c.o;omega),gE (by have:=c.o;omega)⟩;have S:=Hi C;clear m f C;go_wp2_with fail;go_fit (Qoo Q.o.tab B.o.1 (B.o.2.1.mono P.o) hK);rintro e w2 ⟨⟨s,rfl,D⟩,v⟩;obtain⟨T,U,d⟩:=Ib D v (u.o.below v u.o.lt);have f0:=d.o.free k;have t0:w2.cell? ⟨g,k,none⟩=some (.string R):=by
    rw[d.o.cell];simp[textsV,S.o]
   clear D v d0 d1 d2;go_wp2;go_roundw
   case rel=>
    refine⟨k+1,b.set k s,by omega,by go_num,by rw[List.length_set];exact c.o,?_,fun i x y hi hx F=>?_,(L.o.trans (U.o.mono (Nat.le_of_lt M))).setCell (p:=⟨g,k,none⟩) lZ _⟩
    .
     have:=d.o.set k (.string s);rw[Qvl]
     simpa using this
    .
     rcases Nat.lt_or_ge i k with h1|h1
     . rw[List.getElem?_set_ne (by omega)] at F
       exact Z.o i x y h1 hx F
     .
      obtain rfl:i=k:=by omega
      rw[List.getElem?_set_self (by have:=c.o;omega)] at F;obtain rfl:=Option.some.inj F;obtain rfl:=Option.some.inj (HT.o.symm.trans hx);exact T.o
   case measure=>simp[intOf];omega
  .
   have W:k=ts.length:=by omega
   subst W;go_wp2;go_ret;rw[j];exact⟨⟨g,b,rfl,⟨c.o,Nat.le_of_eq rfl⟩,u.o,fun i t s m hs=>Z.o i t s (gZ m).1 m hs⟩,L.o⟩
theorem Tryz.stressInfo:(prog.info? 50).map (·.size)=some 2:=by kernel_rfl
theorem QRow.take{w:Vz}{a:Vx}{cap:Nat}{ts:List FE}(h:QRow w a cap ts)(n:Nat):QRow w a cap (ts.take n):=by
 refine⟨⟨?_,⟨fun j u b=>h.row.row.cell j u ?_⟩⟩,fun t c=>h.ts t (List.mem_of_mem_take c)⟩
 .
  have:=h.row.fit;rw[List.length_take];omega
 .
  have e:ts.flatMap FE.cells=(ts.take n).flatMap FE.cells++(ts.drop n).flatMap FE.cells:=by rw[<-List.flatMap_append,List.take_append_drop]
  rw[e,List.getElem?_append_left (gZ b).1];exact b
theorem QRow.drop{w:Vz}{b a cap:Nat}{ts:List FE}(h:QRow w (some ⟨b,a,none⟩) cap ts){n:Nat}(f:n<=ts.length):QRow w (some ⟨b,a+n*3,none⟩) (cap - n) (ts.drop n):=by
 refine⟨⟨?_,⟨fun j u g=>?_⟩⟩,fun t i=>h.ts t (List.mem_of_mem_drop i)⟩
 .
  have:=h.row.fit;rw[List.length_drop];omega
 .
  have e:ts.flatMap FE.cells=(ts.take n).flatMap FE.cells++(ts.drop n).flatMap FE.cells:=by rw[<-List.flatMap_append,List.take_append_drop]
  have hl:((ts.take n).flatMap FE.cells).length=n*3:=by
   rw[Qbb (c:=FE.cells) (sz:=3) (fun _=>rfl),List.length_take,Nat.min_eq_left f]
  obtain⟨o,d,k,l,m⟩:=h.row.row.cell (n*3+j) u (by rw[e,List.getElem?_append_right (by omega),hl,Nat.add_sub_cancel_left];exact g);cases k;exact⟨b,a+n*3,rfl,l,by rw[Nat.add_assoc];exact m⟩
theorem QRow.empty(w:Vz)(a:Vx)(cap:Nat):QRow w a cap []:=⟨⟨Nat.zero_le _,⟨fun j u b=>by simp at b⟩⟩,fun t c=>by cases c⟩
def Told(ts:List FE)(ss:Vt):Prop:=ss.length=ts.length/\∀(i:Nat) (t:FE) (s:Vs),ts[i]?=some t->ss[i]?=some s->QText s.data.toList t.q
theorem Qvm(P Q:Value)(a2:Vx)(c2 nb b a cap K:Nat)(ts:List FE)(w:Vz)(R:Glob w)(h:QRow w (some ⟨b,a,none⟩) cap ts)(hk:∀t,t∈ ts->t.k<=K)(hK:K<=274877906944)(hl:ts.length<=1000)(hn:nb<=ts.length)(aa:cap<=1000)(o1:P.oneCell'=true)(o3:Q.oneCell'=true):
 Calls prog 42 #[.agg #[P,.slice a2 nb c2,Q],.slice (some ⟨b,a,none⟩) ts.length cap] w fun e w'=>(∃(l m:Nat) (x y:Vt),e=.returned (.agg #[.slice (some ⟨l,0,none⟩) nb nb,.slice (some ⟨m,0,none⟩) (ts.length - nb) (ts.length - nb)])/\SB w' l 54 (textsV x).toArray/\SB w' m 54 (textsV y).toArray/\Told (ts.take nb) x/\Told (ts.drop nb) y/\w.heap.size<=l/\w.heap.size<=m)/\Below w.heap.size w w':=by
 have q:=h.row.fit;have S:(ts.take nb).length=nb:=by rw[List.length_take];omega
 have T:(ts.drop nb).length=ts.length - nb:=List.length_drop;obtain⟨A,hA,r⟩:∃A:Addr,(if cap=nb then some (⟨b,a,none⟩:Addr) else some ⟨b,a+nb*3,none⟩)=some A/\QRow w (some A) (cap - nb) (ts.drop nb):=by
  by_cases e:cap=nb
  .
   refine⟨⟨b,a,none⟩,by simp[e],?_⟩;have:ts.drop nb= []:=List.drop_of_length_le (by omega);rw[this];exact QRow.empty _ _ _
  . exact⟨⟨b,a+nb*3,none⟩,by simp[e],h.drop hn⟩
 obtain⟨s,z⟩:=Ia (fun u (B:Below w.heap.size w u)=>Qli (some ⟨b,a,none⟩) cap K (ts.take nb) u (R.below B) ((h.take nb).below B) (fun t U=>hk t (List.mem_of_mem_take U)) hK (by omega)) (fun u (B:Below w.heap.size w u)=>Qli (some A) (cap - nb) K (ts.drop nb) u (R.below B) (r.below B) (fun t U=>hk t (List.mem_of_mem_drop U)) hK (by omega));rw[S] at s;rw[T] at z;obtain⟨W,X⟩:=Ia S T;clear h R hk r S T;go_enter func42,ntmps42;obtain⟨V,C⟩:=nm ((w.alloc (.cells #[P,.slice a2 nb c2,Q] 26)).alloc (.cells #[.slice none 0 0,.slice none 0 0] 50));have d:=Ub C;have ab:=Ud C
 have f:=Ue C;have HV:=Hi C;clear C;have q1:nb<=cap:=by omega
 have q2:ts.length<=cap:=q;go_wp2_with fail;rw[HV.o];go_region_held3 (fun _=>True) (trivial) (first
  |(
   go_at_call_of 87 (Value.slice (some ⟨b,a,none⟩) nb cap);apply cM;apply s.o;(focus(repeat(first|exact d.o|apply Qav|apply Qaw)));rintro e1 w1 ⟨⟨l,x,rfl,D,E,F⟩,n⟩;(first
     |have g:O (Below V.heap.size V w1):=Hi n
     |have g:O (Below V.heap.size V w1):=Hi (bR.drew.trans n))
   obtain⟨G,H,Y,i⟩:=Ic D E F (d.o.trans (g.o.mono d.o.size));clear D E F n
   skip)
  |(
   go_at_call_of 87 (Value.slice (some A) (ts.length - nb) (cap - nb));apply cM;apply z.o;(focus(repeat(first|exact i.o|apply Qav|apply Qaw)));rintro e2 w2 ⟨⟨m,y,rfl,I,J,L⟩,p⟩;(first
     |have j:O (Below w1.heap.size w1 w2):=Hi p
     |have j:O (Below w1.heap.size w1 w2):=Hi (bR.drew.trans p))
   obtain⟨M,N,Z,c⟩:=Ic I J L ((f.o.below g.o f.o.lt).below j.o (f.o.below g.o f.o.lt).lt);obtain⟨r0,r1,-⟩:=zc c.o;have f0:=c.o.free 0;have f1:=c.o.free 1;clear I J L p
   skip)
  |fail)
 all_goals
  go_wp2;have hx:=H.o.below j.o H.o.lt;have nx:=hx.unlike c.o (by decide);have ny:=N.o.unlike c.o (by decide);refine bodyPost_ret (v:=.agg #[.slice (some ⟨l,0,none⟩) nb nb,.slice (some ⟨m,0,none⟩) (ts.length - nb) (ts.length - nb)]) (results_cell_row rfl _ _ (w.heap.size+1) 50 #[.slice (some ⟨l,0,none⟩) nb nb,.slice (some ⟨m,0,none⟩) (ts.length - nb) (ts.length - nb)] (0,0) _ rfl ((c.o.set 0 _).set 1 _) underlying50 rfl Tryz.stressInfo) rfl ?_;exact⟨⟨l,m,x,y,rfl,(hx.other nx _ _).other nx _ _,(N.o.other ny _ _).other ny _ _,⟨by rw[W.o];exact G.o.1,Y.o⟩,⟨by rw[X.o];exact M.o.1,Z.o⟩,Nat.le_trans d.o.size G.o.2,Nat.le_trans i.o.size M.o.2⟩,((i.o.trans (j.o.mono i.o.size)).setCell (Nat.le_succ _) _).setCell (Nat.le_succ _) _⟩
end Go.Proofs.YtppkmifkpjkgpaaGreatDoor
