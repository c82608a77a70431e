import Derived.Test.YtkkadnoecklepaaGreatDoorG16BalC
import Derived.BigRegion
namespace Go.Proofs.YtkkadnoecklepaaGreatDoor
open Go.RowKit
open Go.Proofs.Tryz
set_option linter.unusedSimpArgs false
set_option linter.unusedVariables false
set_option maxHeartbeats 8000000
set_option maxRecDepth 1000000
theorem GM.rows{w u:Vz}{B G W K:Nat}{d:Vy}{M:Nat->Nat->Rat}(h:GM w u B G W K d M)(H:∀r c,W<=c->M r c=0):
 ∃rs:List MR,rs.length=d.length/\QMat u (some ⟨G,0,none⟩) d.length W rs/\Oks u W K rs/\(∀r,r∈ rs->∀t,t∈ r.ts->t.k<=K)/\rs.map MR.q=(List.range d.length).map M:=by
 have hex:∀r:Nat,∃m:MR,∀g,d[r]?=some g->m.a=some ⟨g,0,none⟩/\m.cap=W/\m.ts.length=W/\QBlk u g m.ts/\∀(c:Nat) (t:FE),m.ts[c]?=some t->t.q=M r c/\t.k<=K:=fun r=>by
  rcases j:d[r]? with _|g
  . exact⟨MR.none,fun g I=>by cases I⟩
  . obtain⟨us,x,s,v⟩:=h.row r g j
    exact⟨⟨some ⟨g,0,none⟩,W,us⟩,fun N C=>by cases C;exact⟨rfl,rfl,s,x,v⟩⟩
 obtain⟨f,J⟩:=Classical.axiomOfChoice hex;have n:∀r,r<d.length->∃g,d[r]?=some g/\(f r).a=some ⟨g,0,none⟩/\(f r).cap=W/\(f r).ts.length=W/\QBlk u g (f r).ts/\∀(c:Nat) (t:FE),(f r).ts[c]?=some t->t.q=M r c/\t.k<=K:=fun r j=>⟨d[r],gE j,J r _ (gE j)⟩
 have y:∀m,m∈ (List.range d.length).map f->∃r,r<d.length/\f r=m:=fun m e=>by
  obtain⟨r,j,rfl⟩:=List.mem_map.1 e;exact⟨r,List.mem_range.1 j,rfl⟩
 have l:(d.map (slRow W)).toArray.toList=((List.range d.length).map f).flatMap MR.cells:=by
  rw[Qet,List.map_map];apply List.ext_getElem?;intro i;simp only[List.getElem?_map,Function.comp];rcases Nat.lt_or_ge i d.length with p|p
  .
   obtain⟨g,x,s,v,z,_⟩:=n i p;rw[x,List.getElem?_range p];simp[slRow,MR.val,s,v,z]
  . rw[List.getElem?_eq_none p,List.getElem?_eq_none (by simpa using p)]
    rfl
 have b:∀m,m∈ (List.range d.length).map f->QRow u m.a m.cap m.ts/\m.ts.length=W/\∀t,t∈ m.ts->t.k<=K:=fun m e=>by
  obtain⟨r,j,rfl⟩:=y m e;obtain⟨g,x,s,v,z,E,D⟩:=n r j;refine⟨?_,z,fun t A=>?_⟩
  . rw[s,v,<-z]
    exact E.row
  . obtain⟨i,p,L⟩:=List.getElem_of_mem A
    exact(D i t (by rw[<-L];exact gE p)).2
 refine⟨(List.range d.length).map f,by simp,⟨h.o.arow l (by simp),fun m e=>⟨(b m e).1,(b m e).2.1⟩⟩,fun m e=>⟨(b m e).1,(b m e).2.1,(b m e).2.2⟩,fun m e=>(b m e).2.2,?_⟩;rw[List.map_map];apply List.map_congr_left;intro r j;obtain⟨g,x,s,v,z,E,D⟩:=n r (List.mem_range.1 j);funext c
 show (f r).q c=M r c
 rcases Nat.lt_or_ge c W with F|F
 .
  obtain⟨t,A⟩:∃t,(f r).ts[c]?=some t:=⟨(f r).ts[c]'(by omega),gE (by omega)⟩;rw[MR.q_at A];exact(D c t A).1
 . rw[MR.q_beyond (by omega),H r c F]
theorem Qha(f g h:Vx)(c1 c2 c3:Nat)(a:List S2)(b:List B6)(d:List H3)(w:Vz)(l:Glob w)(m:FrRow w f g h c1 c2 c3 a b d)(n:FrSized a b d)(i:FrameFault a b d 0 0):
 Calls prog 50 #[.agg #[.slice f a.length c1,.slice g b.length c2,.slice h d.length c3]] w fun e k=>e=.returned (.agg #[.int .i64 0,.int .i64 0])/\Below w.heap.size w k:=by
 refine(Qt2 f g h c1 c2 c3 a b d w l m n).mono ?_;rintro e k ⟨c,o,rfl,j,p⟩;obtain⟨rfl,rfl⟩:=j.inj i;exact⟨rfl,p⟩
structure FrV (n:Nat) (js:List S2) (bs:List B6) (hs:List H3) (vb:List (Nat × Nat × Rat × Rat)) (vh:Vy):Prop where
 j:js.length<=10
 b:bs.length<=24
 h:hs.length<=20
 lb:vb.length=bs.length
 lh:vh.length=hs.length
 vb:∀(i:Nat) (b:B6) (p:Nat × Nat × Rat × Rat),bs[i]?=some b->vb[i]?=some p->BarV n js b p
 vh:∀(i:Nat) (h:H3) (r:Nat),hs[i]?=some h->vh[i]?=some r->HoldV js.length h r
 n:n<=1048576
def LoadsFault(nj en:Nat)(ls:List L3)(c at_:Int):Prop:=
 (20<ls.length/\c=2/\at_=(en:Nat))∨
 (ls.length<=20/\((∃(k:Nat) (l:L3),ls[k]?=some l/\(∀(i:Nat) (x:L3),i<k->ls[i]?=some x->IsJ nj x.j)/\¬IsJ nj l.j/\c=4/\at_=(en:Nat)+(k:Nat))∨
 ((∀(i:Nat) (x:L3),ls[i]?=some x->IsJ nj x.j)/\c=0/\at_=0)))
theorem Ql7(A W X Y:Vx)(c1 c2 c3 Z n nb B:Nat)(b:List L3)(w:Vz)(hl:ARow L3.cells w Y Z b)(n1:n<=10)(n2:nb<=24)(n3:B<=20)(aa:b.length<=9223372036854775807):
 Calls prog 51 #[.agg #[.slice A n c1,.slice W nb c2,.slice X B c3],.slice Y b.length Z] w fun e w'=>∃c D,e=.returned (.agg #[.int .i64 c,.int .i64 D])/\LoadsFault n (nb+B) b c D/\Below w.heap.size w w':=by
 have HL:=Hi hl;clear hl;obtain⟨f,g⟩:=nm w.heap.size;obtain⟨V,hV⟩:=nm ((w.alloc (.cells #[.slice A n c1,.slice W nb c2,.slice X B c3] 26)).alloc (.cells #[.int .i64 0,.int .i64 0] 41));have d:=Ub hV;have t:=Ug hV g;have m:=Uh hV g;obtain⟨y,E⟩:=nm (nb+B);have ei:(nb:Int)+(B:Int)=(y:Int):=by omega
 obtain⟨-,x1,x2,-⟩:=zc t.o;obtain⟨J,y1,-⟩:=zc m.o;have K:=m.o.free 0;have L:=m.o.free 1;rw[<-hV,<-g] at x1 x2 J y1 K L;obtain⟨F,q,G⟩:=Ib hV g E;have r:w.heap.size<=f+1:=by omega
 have O:y<=44:=by omega
 clear hV g E;go_enter func51,ntmps51;by_cases P:20<b.length
 .
  have Q:(20:Int)<(b.length:Int):=by omega
  go_wp2;simp only[F.o,q.o,ei];refine bodyPost_ret (results_cell_row rfl _ _ (f+1) 41 #[.int .i64 2,.int .i64 (y:Int)] (0,0) _ rfl (by rw[<-q.o];exact Qa1 w _ _ _) underlying41 rfl Tryz.faultInfo) rfl ?_;exact⟨2,(y:Nat),rfl,.inl ⟨P,rfl,by rw[G.o]⟩,(by have:=q.o;subst this;exact Below.new2 _ _ _)⟩
 .
  have Q:¬((20:Int)<(b.length:Int)):=by omega
  go_wp2_with fail;simp only[F.o,q.o,ei];clear x1 x2 J y1 K L;go_loopw [21] (fun R wr=>∃k:Nat,k<=b.length/\R=.int .i64 k/\(∀(i:Nat) (x:L3),i<k->b[i]?=some x->IsJ n x.j)/\Below V.heap.size V wr) (fun R _=>b.length - (intOf R).toNat)
  case atStart=>exact⟨0,by omega,rfl,fun i x hi=>by omega,Below.refl _ _⟩
  case round=>
   obtain⟨k,hk,rfl,s,M⟩:=hrel;obtain⟨S,N,HX,a⟩:=Ic s M (t.o.below M t.o.lt) (m.o.below M m.o.lt);clear s M;by_cases T:k<b.length
   .
    obtain⟨l,hl⟩:∃l,b[k]?=some l:=⟨b[k],gE T⟩;obtain⟨lb,lo,rfl,ab,d0,d1,d2⟩:=(HL.o.below (d.o.trans (N.o.mono d.o.size))).load hl;obtain⟨x0,-⟩:=zc HX.o;have q1:((k:Int)<(b.length:Int)):=by omega
    have H:=Hi hl;have wE:IntKind.i64.wrap ((y:Int)+(k:Int))=(y:Int)+(k:Int):=Qam _ (by omega) (by omega);clear hl;by_cases C:IsJ n l.j
    .
     obtain⟨U,z⟩:=Ia (fun u=>Qba A n c1 l.j u C) C;clear C;go_wp2_with fail;go_region_held3 (fun v=>v.cell? ⟨f,0,none⟩=some (.slice A n c1)/\v.cell? ⟨lb,lo+k*3,none⟩=some (.int .i64 l.j)) ((first|(simp [*];done)|go_keep)) (first
      |(
       go_at_call 106;apply cM;apply U.o
       rintro e v1 ⟨rfl,rfl⟩)
      |fail)
     go_wp2;go_roundw
     case rel=>
      refine⟨k+1,by omega,by go_num,fun i x hi I=>?_,N.o.drew⟩;rcases Nat.lt_or_ge i k with h|h
      . exact S.o i x h I
      .
       obtain rfl:i=k:=by omega
       rw[<-Option.some.inj (H.o.symm.trans I)];exact z.o
     case measure=>simp[intOf];omega
    .
     obtain⟨U,z⟩:=Ia (fun u=>Qeq A n c1 l.j u C) C;obtain⟨J,y1,-⟩:=zc a.o;have K:wr.frozen? ⟨f+1,0,none⟩=false:=a.o.free 0;have L:wr.frozen? ⟨f+1,1,none⟩=false:=a.o.free 1;clear C;go_wp2_with fail;go_region_held3 (fun v=>v.cell? ⟨f,0,none⟩=some (.slice A n c1)/\v.cell? ⟨lb,lo+k*3,none⟩=some (.int .i64 l.j)) ((first|(simp [*];done)|go_keep)) (first
      |(
       go_at_call 106;apply cM;apply U.o
       rintro e v1 ⟨rfl,rfl⟩)
      |fail)
     go_wp2;refine bodyPost_ret (results_cell_row rfl _ _ (f+1) 41 #[.int .i64 (4),.int .i64 ((y:Int)+(k:Int))] (0,0) _ rfl ((a.o.set 0 _).set 1 _) underlying41 rfl Tryz.faultInfo) rfl ?_;exact⟨4,_,rfl,.inr ⟨by omega,.inl ⟨k,l,H.o,S.o,z.o,rfl,by rw[G.o]⟩⟩,(((d.o.trans (N.o.mono d.o.size)).setCell (p:=⟨f+1,0,none⟩) r _).setCell (p:=⟨f+1,1,none⟩) r _).drew⟩
   .
    obtain rfl:k=b.length:=by omega
    obtain⟨J,y1,-⟩:=zc a.o;have K:=a.o.free 0;have L:=a.o.free 1;go_wp2;refine bodyPost_ret (results_cell_row rfl _ _ (f+1) 41 #[.int .i64 (0),.int .i64 (0)] (0,0) _ rfl ((a.o.set 0 _).set 1 _) underlying41 rfl Tryz.faultInfo) rfl ?_;exact⟨0,0,rfl,.inr ⟨by omega,.inr ⟨fun i x I=>S.o i x (gZ I).1 I,rfl,rfl⟩⟩,((d.o.trans (N.o.mono d.o.size)).setCell (p:=⟨f+1,0,none⟩) r _).setCell (p:=⟨f+1,1,none⟩) r _⟩
theorem Qey{P:Program}{q:Func}{p u:Tmp}{ty b:Vr}(h:q.results=#[.cell p ty,.cell u b])(a:Vw)(w:Vz)(g f:Nat)(t r:Vr)(i c:Vw)(fr e:Nat × Nat)(d j:TypeDesc)
 (s:a.getD p undef=.pointer (some ⟨g,0,none⟩)) (v:w.heap[g]?=some (.cells i t fr)) (k:a.getD u undef=.pointer (some ⟨f,0,none⟩)) (l:w.heap[f]?=some (.cells c r e))
 (x:P.underlying ty=some d) (y:(match d with| .struct _| .array _ _=>true|_=>false)=true) (z:(P.info? ty).map (·.size)=some i.size) (m:P.underlying b=some j) (n:(match j with| .struct _| .array _ _=>true|_=>false)=true) (o:(P.info? b).map (·.size)=some c.size):
 (results q a).run P w=.ok (.tuple #[.agg i,.agg c]) w:=by
 have A:a[p]?.getD undef=.pointer (some ⟨g,0,none⟩):=by simpa using s
 have B:a[u]?.getD undef=.pointer (some ⟨f,0,none⟩):=by simpa using k
 simp[results,h,A,B,asAddr,run_loadVar_row w g t ty i fr d v x y z,run_loadVar_row w f r b c e j l m n o]
theorem q_of{l t a:Vu}{v q:Rat}(b:Lib.trimPrefix l [45]=t)(c:Lib.cut t [47]=(a,[],false))(d:IsDig a)(e:v=mkRat (decVal a:Nat) 1)(f:q=if Lib.hasPrefix l [45]=true then -v else v):QOf l q:=by
 refine⟨v,.inl ⟨⟨?_,?_⟩,?_⟩,f⟩
 . rw[b,c];exact d
 . rw[b,c];intro h;cases h
 . rw[b,c];simpa using e
theorem Qhb{c:UInt8}(a:48<=c.toNat)(b:c.toNat<=57):IsDig [c]:=⟨by simp,fun d e=>by
 obtain rfl:d=c:=by simpa using e
 exact⟨a,b⟩⟩
theorem q0_of:QOf tx0.data.toList 0:=q_of (l:=[48]) (t:=[48]) (a:=[48]) (v:=0) (by decide) (by decide) (Qhb (by decide) (by decide)) (by decide) (by decide)
theorem q1_of:QOf tx1.data.toList 1:=one_q
theorem q2_of:QOf (⟨#[50]⟩:ByteArray).data.toList 2:=q_of (l:=[50]) (t:=[50]) (a:=[50]) (v:=2) (by decide) (by decide) (Qhb (by decide) (by decide)) (by decide) (by decide)
theorem corner_sized:FrSized cornerJ cornerB cornerH:=by
 refine⟨?_,?_,?_⟩
 .
  intro p a;simp[cornerJ] at a;rcases a with rfl|rfl|rfl<;>exact⟨by decide,by decide⟩
 .
  intro b c;simp[cornerB,cornerBar] at c;rcases c with rfl|rfl|rfl<;>exact⟨by decide,by decide,by decide,by decide⟩
 .
  intro x d;simp[cornerH] at d;rcases d with rfl|rfl|rfl<;>decide
theorem qt1:QText tx1.data.toList 1:=⟨[49],⟨[49],.inr ⟨by decide,[1],⟨fun d a=>by simp at a;omega,.inr (by simp),by simp[val]⟩,by decide⟩,by decide⟩,.inl ⟨by decide,rfl⟩⟩
theorem qtm:QText (⟨#[45,49]⟩:ByteArray).data.toList (-1):=⟨[45,49],⟨[49],.inr ⟨by decide,[1],⟨fun d a=>by simp at a;omega,.inr (by simp),by simp[val]⟩,by decide⟩,by decide⟩,.inl ⟨by decide,rfl⟩⟩
def TLst(w:Vz)(a:Vx)(l:Vt):Prop:=∀(i:Nat) (s:Vs),l[i]?=some s->∃b off,a=some ⟨b,off,none⟩/\b<w.heap.size/\w.cell? ⟨b,off+i,none⟩=some (.string s)
theorem SB.texts{w:Vz}{g:Nat}{t:Vr}{l:Vt}(h:SB w g t (textsV l).toArray):TLst w (some ⟨g,0,none⟩) l:=fun i s a=>⟨g,0,rfl,h.lt,by
 rw[Nat.zero_add,h.cell]
 simp[textsV,a]⟩
theorem Qnl(a b:Vx)(c d:Nat)(l:Vt)(w:Vz)(m:TLst w a l)(n:TLst w b l)(A:l.length<=1000000):
 Calls prog 41 #[.slice a l.length c,.slice b l.length d] w fun e s=>e=.returned (.bool true)/\Below w.heap.size w s:=by
 obtain⟨t,u⟩:=Ia m n;clear m n;go_enter func41,ntmps41;go_wp2_with fail;go_loopw [13] (fun h wr=>∃i:Nat,i<=l.length/\h=.int .i64 i/\Below w.heap.size w wr) (fun h _=>l.length - (intOf h).toNat)
 case atStart=>exact⟨0,by omega,rfl,Below.refl _ _⟩
 case round=>
  obtain⟨i,B,rfl,g⟩:=hrel;have p:=Hi g;by_cases j:i<l.length
  .
   obtain⟨f,k⟩:∃f,l[i]?=some f:=⟨l[i],gE j⟩;obtain⟨b1,v,rfl,q,d1⟩:=t.o i f k;obtain⟨b2,x,rfl,r,d2⟩:=u.o i f k;have y:wr.cell? ⟨b1,v+i,none⟩=some (.string f):=ce g q d1;have z:wr.cell? ⟨b2,x+i,none⟩=some (.string f):=ce g r d2;have C:((i:Int)<(l.length:Int)):=by omega
   clear k d1 d2 g q r;go_wp2_with fail;go_region;go_wp2;go_roundw
   case rel=>exact⟨i+1,by omega,by go_num,p.o.drew⟩
   case measure=>simp[intOf];omega
  .
   obtain rfl:i=l.length:=by omega
   clear g;go_wp2;go_ret;exact⟨rfl,p.o⟩
def textD{H:Type}(s:Vs):DataW H:=.lit (.string s.data.toList)
section
variable {H:Type} {enc:TypeId × Value->H} {P:Program} {w:Vz} {base:Nat} {spare:Nat->Bool} {held:Bool} {fuel:Nat} {cs:Vv} {x:DataW H × List MemPlace} {tE tS tQ tI tI':Vr} {f0 f1 f2 f3 f4 f5:Field}
theorem Qei{α:Type}{c:α->List Value}{dat:α->DataW H}{sz:Nat}{t:Vr}(C:α)(g:0<sz)(I:∀e,(c e).length=sz)(Y:P.underlying t=some (.slice tE))(Z:P.cellsOf tE=sz)
 (E:∀(fuel:Nat) (cs:Vv) (x:DataW H × List MemPlace),DataW.trod enc P w base spare held fuel tE cs=some x->∃e,cs=c e/\x.1=dat e)
 (h:DataW.trod enc P w base spare held fuel t cs=some x):
 ∃(a:Vx) (o:Nat) (J:List α),cs= [.slice a J.length o]/\ARow c w a o J/\(∀l r,x.1=.slice l r->l=J.map dat)/\((J= []/\x.1=.nil)∨∃l r,x.1=.slice l r):=by
 rcases Deep.open_slice Y h with ⟨rfl,rfl⟩|⟨a,d,o,m,n,D,Pl,rfl,hb,M,aa,hm,rfl,hD⟩
 . exact⟨none,0,[],rfl,⟨by simp,⟨fun j u B=>by simp at B⟩⟩,fun l r e=>by simp at e,.inl ⟨rfl,rfl⟩⟩
 have ab:d<=m:=by rw[hm];split<;>omega
 have p:∀i,∃f:α,i<d->w.cells? base (a.add (i*sz)) sz=some (c f)/\D i=dat f:=by
  intro i;by_cases N:i<d
  .
   obtain⟨ad,K,L⟩:=hD i (by omega);obtain⟨f,rfl,hd⟩:=E _ _ _ L;rw[Z] at K;exact⟨f,fun _=>⟨K,hd⟩⟩
  . exact⟨C,fun h=>absurd h N⟩
 obtain⟨F,O⟩:=Classical.axiomOfChoice p;refine⟨some a,o,(List.range d).map F,by simp,⟨by simpa using M,⟨?_⟩⟩,?_,.inr ⟨_,_,rfl⟩⟩
 .
  intro j u B;have q:=(gZ B).1;rw[Qas I] at q;simp only[List.length_map,List.length_range] at q;have s:j / sz<d:=(Nat.div_lt_iff_lt_mul g).2 q;have Q:j % sz<sz:=Nat.mod_lt _ g;obtain⟨V,G⟩:∃V,(c (F (j / sz)))[j % sz]?=some V:=⟨_,gE (by rw[I];exact Q)⟩;have K:((List.range d).map F)[j / sz]?=some (F (j / sz)):=by simp[s]
  have L:=Qbr I _ _ _ _ _ K G;rw[Nat.div_add_mod' j sz,B] at L;obtain rfl:=Option.some.inj L;obtain⟨R,_⟩:=O _ s;obtain⟨_,_,y⟩:=World.cells?_some R;obtain⟨b,A,W⟩:=a;have S:=y (j % sz) (by omega);have z:=(World.cells?_some (O 0 (Nat.lt_of_le_of_lt (Nat.zero_le _) s)).1).2.2 0 g;have T:W=none:=by
   cases W with
   |none=>rfl
   |some v=>
    exfalso
    obtain⟨X,U⟩:∃X,(c (F 0))[0]?=some X:=⟨_,gE (by rw[I];exact g)⟩;rw[U] at z;simp only[Nat.zero_mul,Addr.add,if_true,World.cell?] at z
    split at z<;>simp at z
  subst T;have ea:∀j k,(Addr.add ⟨b,A,none⟩ j).add k=⟨b,A+j+k,none⟩:=by
   intro j k;unfold Addr.add;by_cases B:j=0<;>by_cases hk:k=0<;>simp[B,hk]
  rw[ea,G,Nat.add_assoc,Nat.div_add_mod'] at S;exact⟨b,A,rfl,World.block_lt_of_cell? _ _ S,S⟩
 .
  intro l r e;have e1:(List.range d).map D=l:=by simpa using (DataW.slice.inj e).1
  rw[<-e1,List.map_map];refine List.map_congr_left fun i N=>?_
  exact(O i (by simpa using N)).2
end
def spotD{H:Type}(s:S2):DataW H:=.agg [textD s.x,textD s.y]
def barD{H:Type}(b:B6):DataW H:=.agg [.lit (.int .i64 b.a),.lit (.int .i64 b.b),textD b.c,textD b.e,textD b.l,textD b.m]
def holdD{H:Type}(h:H3):DataW H:=.agg [.lit (.int .i64 h.j),.lit (.int .i64 h.w),textD h.q]
def loadD{H:Type}(l:L3):DataW H:=.agg [.lit (.int .i64 l.j),.agg [textD l.x,textD l.y]]
section
variable {H:Type} {enc:TypeId × Value->H} {P:Program} {w:Vz} {base:Nat} {spare:Nat->Bool} {held:Bool} {fuel:Nat} {cs:Vv} {x:DataW H × List MemPlace} {tE tS tQ tI tI':Vr} {f0 f1 f2 f3 f4 f5:Field}
theorem Qs9(u:P.underlying tE=some (.struct #[f0,f1,f2,f3,f4,f5]))(f:P.underlying tQ=some .string)(s:P.underlying tI=some (.int .i64))(v:P.cellsOf tE=6)(g:P.cellsOf tQ=1)(t:P.cellsOf tI=1)
 (t0:f0.type=tI) (t1:f1.type=tI) (t2:f2.type=tQ) (t3:f3.type=tQ) (t4:f4.type=tQ) (t5:f5.type=tQ) (y:f0.offset=0) (z:f1.offset=1) (A:f2.offset=2) (B:f3.offset=3) (C:f4.offset=4) (D:f5.offset=5)
 (h:DataW.trod enc P w base spare held fuel tE cs=some x):∃b:B6,cs=b.cells/\x.1=barD b:=by
 obtain⟨xs,n,rfl,rfl,hl,i,d⟩:=DataW.trod_struct u h;rw[v] at hl;clear h;have j:=d 0 f0 rfl;have k:=d 1 f1 rfl;have o:=d 2 f2 rfl;have p:=d 3 f3 rfl;have q:=d 4 f4 rfl;have r:=d 5 f5 rfl;rw[t0,y,t] at j;rw[t1,z,t] at k;rw[t2,A,g] at o;rw[t3,B,g] at p;rw[t4,C,g] at q;rw[t5,D,g] at r;clear d
 match cs,hl,xs,i with
 | [v0,v1,v2,v3,v4,v5],_,[y0,y1,y2,y3,y4,y5],_=>
   simp only[List.drop_zero,List.drop_succ_cons,List.take_succ_cons,List.take_zero,List.getElem?_cons_zero,List.getElem?_cons_succ] at j k o p q r;obtain⟨a,E,rfl,_⟩:=DataW.trod_int s j;obtain⟨b,F,rfl,_⟩:=DataW.trod_int s k;obtain⟨c,G,rfl,_⟩:=DataW.trod_string f o;obtain⟨e,I,rfl,_⟩:=DataW.trod_string f p;obtain⟨l,J,rfl,_⟩:=DataW.trod_string f q;obtain⟨m,K,rfl,_⟩:=DataW.trod_string f r;obtain rfl:v0=_:=by simpa using E
   obtain rfl:v1=_:=by simpa using F
   obtain rfl:v2=_:=by simpa using G
   obtain rfl:v3=_:=by simpa using I
   obtain rfl:v4=_:=by simpa using J
   obtain rfl:v5=_:=by simpa using K
   exact⟨⟨a,b,c,e,l,m⟩,rfl,rfl⟩
theorem Qta(l:P.underlying tE=some (.struct #[f0,f1,f2]))(m:P.underlying tQ=some .string)(o:P.underlying tI=some (.int .i64))(e:P.underlying tI'=some (.int .i64))(p:P.cellsOf tE=3)(q:P.cellsOf tQ=1)(r:P.cellsOf tI=1)(f:P.cellsOf tI'=1)
 (t0:f0.type=tI) (t1:f1.type=tI') (t2:f2.type=tQ) (s:f0.offset=0) (t:f1.offset=1) (u:f2.offset=2)
 (h:DataW.trod enc P w base spare held fuel tE cs=some x):∃b:H3,cs=b.cells/\x.1=holdD b:=by
 obtain⟨xs,n,rfl,rfl,hl,g,d⟩:=DataW.trod_struct l h;rw[p] at hl;clear h;have i:=d 0 f0 rfl;have j:=d 1 f1 rfl;have k:=d 2 f2 rfl;rw[t0,s,r] at i;rw[t1,t,f] at j;rw[t2,u,q] at k;clear d
 match cs,hl,xs,g with
 | [v0,v1,v2],_,[y0,y1,y2],_=>
   simp only[List.drop_zero,List.drop_succ_cons,List.take_succ_cons,List.take_zero,List.getElem?_cons_zero,List.getElem?_cons_succ] at i j k;obtain⟨a,v,rfl,_⟩:=DataW.trod_int o i;obtain⟨b,y,rfl,_⟩:=DataW.trod_int e j;obtain⟨c,z,rfl,_⟩:=DataW.trod_string m k;obtain rfl:v0=_:=by simpa using v
   obtain rfl:v1=_:=by simpa using y
   obtain rfl:v2=_:=by simpa using z
   exact⟨⟨a,b,c⟩,rfl,rfl⟩
theorem Qtb(u:P.underlying tE=some (.struct #[f0,f1,f2]))(k:P.cellsOf tE=3){t0 t1 t2:Vr}(l:f0.type=t0)(m:f1.type=t1)(o:f2.type=t2)(p:P.cellsOf t0=1)(k1:P.cellsOf t1=1)(k2:P.cellsOf t2=1)(q:f0.offset=0)(r:f1.offset=1)(s:f2.offset=2)
 (h:DataW.trod enc P w base spare held fuel tE cs=some x):∃n a b c d y1 y2,cs= [a,b,c]/\x.1=.agg [d.1,y1.1,y2.1]/\DataW.trod enc P w base spare held n t0 [a]=some d/\DataW.trod enc P w base spare held n t1 [b]=some y1/\DataW.trod enc P w base spare held n t2 [c]=some y2:=by
 obtain⟨xs,n,rfl,rfl,hl,f,e⟩:=DataW.trod_struct u h;rw[k] at hl;clear h;have g:=e 0 f0 rfl;have i:=e 1 f1 rfl;have j:=e 2 f2 rfl;rw[l,q,p] at g;rw[m,r,k1] at i;rw[o,s,k2] at j;clear e
 match cs,hl,xs,f with
 | [a,b,c],_,[d,y1,y2],_=>
   simp only[List.drop_zero,List.drop_succ_cons,List.take_succ_cons,List.take_zero,List.getElem?_cons_zero,List.getElem?_cons_succ] at g i j;exact⟨n,a,b,c,d,y1,y2,rfl,rfl,g,i,j⟩
end
section
open Go.ChangeShapes Go.WideShapes Go.ChangeAt Go.RowKit
theorem Qk7:prog.cellsOf 84=6:=by kernel_rfl
theorem Qk8:prog.cellsOf 86=3:=by kernel_rfl
theorem Qua:prog.cellsOf 22=1:=by kernel_rfl
theorem Qub:prog.cellsOf 23=1:=by kernel_rfl
theorem Quc:prog.cellsOf 24=1:=by kernel_rfl
theorem Qud:prog.cellsOf 26=3:=by kernel_rfl
theorem Que:prog.readableRec 26=true:=by kernel_rfl
theorem Quf:26<prog.types.size:=by refine of_decide_eq_true ?_;kernel_rfl
section
variable {H:Type}
theorem Qc4{α:Type}(dat:α->DataW H)(b:∀e,1<=Rows.uptoBulk (dat e))(a:List α):a.length<=Rows.uptoBulkAll (a.map dat):=by
 induction a with
 |nil=>simp
 |cons e l c=>
  have:=b e;simp only[List.map_cons,Rows.uptoBulkAll,List.length_cons];omega
theorem Qcj{α:Type}{dat:α->DataW H}{a:List α}{d:DataW H}{N:Nat}(b:Rows.uptoBulk d<=N)(hl:∀l r,d=.slice l r->l=a.map dat)(c:(a= []/\d=.nil)∨∃l r,d=.slice l r):Rows.uptoBulkAll (a.map dat)<=N:=by
 rcases c with ⟨rfl,_⟩|⟨l,r,rfl⟩
 . simp[Rows.uptoBulkAll]
 . rw[<-hl l r rfl]
   exact Nat.le_trans (Qt3 l r) b
theorem Qgt(s:S2):1<=Rows.uptoBulk (spotD (H:=H) s)/\s.x.size+s.y.size<=Rows.uptoBulk (spotD (H:=H) s):=by
 simp[spotD,textD,Rows.uptoBulk,Rows.uptoBulkAll];omega
theorem Qgu(b:B6):1<=Rows.uptoBulk (barD (H:=H) b)/\b.c.size+b.e.size+b.l.size+b.m.size<=Rows.uptoBulk (barD (H:=H) b):=by
 simp[barD,textD,Rows.uptoBulk,Rows.uptoBulkAll];omega
theorem Qk9(h:H3):1<=Rows.uptoBulk (holdD (H:=H) h)/\h.q.size<=Rows.uptoBulk (holdD (H:=H) h):=by
 simp[holdD,textD,Rows.uptoBulk,Rows.uptoBulkAll];omega
theorem Qgv{α:Type}(dat:α->DataW H){a:List α}{e:α}(b:e∈ a):Rows.uptoBulk (dat e)<=Rows.uptoBulkAll (a.map dat):=Qk5 (List.mem_map.2 ⟨e,b,rfl⟩)
variable {enc:TypeId × Value->H} {W:Vz}
theorem Qug{b:Vw}{d:DataW H}{E:List MemPlace}(v:Rows.uptoBulk d<=1048576)
 (h:DataW.Trod enc prog W 0 (fun _=>true) true 26 (.agg b) d E):
 ∃(m o q:Vx) (c1 c2 c3:Nat) (f:List S2) (g:List B6) (i:List H3),b=#[.slice m f.length c1,.slice o g.length c2,.slice q i.length c3]/\FrRow W m o q c1 c2 c3 f g i/\FrSized f g i/\f.length<=1048576/\g.length<=1048576/\i.length<=1048576/\Rows.uptoBulkAll (f.map (spotD (H:=H)))+Rows.uptoBulkAll (g.map (barD (H:=H)))<=Rows.uptoBulk d:=by
 obtain⟨a,h⟩:=h;obtain⟨n,F,G,I,y,y1,y2,k,j,J,K,L⟩:=Qtb underlying26 Qud rfl rfl rfl Qua Qub Quc rfl rfl rfl h;have z:(Value.agg b).cells.toList=b.toList:=by rfl
 rw[z] at k;clear h z;obtain⟨m,c1,f,M,N,A,B⟩:=Qei (c:=S2.cells) (dat:=spotD) (sz:=2) ⟨⟨#[]⟩,⟨#[]⟩⟩ (by decide) (fun _=>rfl) underlying22 Qgm (fun a b x j=>by
  obtain⟨s,t,e,w,_⟩:=Qkn underlying34 underlying32 Qgm Qej rfl rfl rfl rfl j
  exact⟨⟨s,t⟩,e,w⟩) J
 obtain⟨o,c2,g,O,P,C,D⟩:=Qei (c:=B6.cells) (dat:=barD) (sz:=6) ⟨0,0,⟨#[]⟩,⟨#[]⟩,⟨#[]⟩,⟨#[]⟩⟩ (by decide) (fun _=>rfl) underlying23 Qk7 (fun a b x j=>Qs9 underlying84 underlying32 underlying3 Qk7 Qej cellsInt rfl rfl rfl rfl rfl rfl rfl rfl rfl rfl rfl rfl j) K;obtain⟨q,c3,i,Q,R,S,T⟩:=Qei (c:=H3.cells) (dat:=holdD) (sz:=3) ⟨0,0,⟨#[]⟩⟩ (by decide) (fun _=>rfl) underlying24 Qk8 (fun a b x j=>Qta underlying86 underlying32 underlying3 underlying3 Qk8 Qej cellsInt cellsInt rfl rfl rfl rfl rfl rfl j) L;obtain rfl:F=_:=by simpa using M
 obtain rfl:G=_:=by simpa using O
 obtain rfl:I=_:=by simpa using Q
 have w:d=.agg [y.1,y1.1,y2.1]:=j;subst w;have U:Rows.uptoBulk y.1<=1048576:=Nat.le_trans (by simp only[Rows.uptoBulk,Rows.uptoBulkAll];omega) v;have b1:Rows.uptoBulk y1.1<=1048576:=Nat.le_trans (by simp only[Rows.uptoBulk,Rows.uptoBulkAll];omega) v;have b2:Rows.uptoBulk y2.1<=1048576:=Nat.le_trans (by simp only[Rows.uptoBulk,Rows.uptoBulkAll];omega) v;have V:=Qcj U A B;have k1:=Qcj b1 C D;have k2:=Qcj b2 S T;have X:=Qc4 (H:=H) spotD (fun e=>(Qgt e).1) f;have n1:=Qc4 (H:=H) barD (fun e=>(Qgu e).1) g;have Y:=Qc4 (H:=H) holdD (fun e=>(Qk9 e).1) i;refine⟨m,o,q,c1,c2,c3,f,g,i,by rw[<-Array.toArray_toList (xs:=b),k],⟨N,P,R⟩,⟨fun p l=>?_,fun p l=>?_,fun p l=>?_⟩,by omega,by omega,by omega,by
  have r:=Qcj lZ A B;have u:=Qcj lZ C D;simp only[Rows.uptoBulk,Rows.uptoBulkAll] at r u ⊢
  omega⟩
 .
  have r:=Qgv (H:=H) spotD l;have u:=(Qgt (H:=H) p).2;omega
 .
  have r:=Qgv (H:=H) barD l;have u:=(Qgu (H:=H) p).2;omega
 .
  have r:=Qgv (H:=H) holdD l;have u:=(Qk9 (H:=H) p).2;omega
end
end
def sumQ:Nat->(Nat->Rat)->Rat
 |0,_=>0
 |n+1,f=>sumQ n f+f n
theorem Qj3:∀(n:Nat) (f:Nat->Rat),(∀p,p<n->f p=0)->sumQ n f=0
 |0,_,_=>rfl
 |n+1,f,h=>by rw[sumQ,Qj3 n f (fun p a=>h p (by omega)),h n (by omega)];grind
theorem Qgb:∀(n:Nat) (f:Nat->Rat) (a:Nat),a<n->(∀p,p<n->p≠a->f p=0)->sumQ n f=f a
 |n+1,f,a,ha,h=>by
  rw[sumQ];by_cases e:a=n
  . subst e
    rw[Qj3 a f (fun p b=>h p (by omega) (by omega)),Rat.zero_add]
  . rw[Qgb n f a (by omega) (fun p b=>h p (by omega)),h n (by omega) (by omega),Rat.add_zero]
theorem Qj4:∀(n:Nat) (f:Nat->Rat) (a b:Nat),a<n->b<n->a≠b->(∀p,p<n->p≠a->p≠b->f p=0)->sumQ n f=f a+f b
 |n+1,f,a,b,ha,hb,hab,h=>by
  rw[sumQ];by_cases e:a=n
  .
   subst e;rw[Qgb a f b (by omega) (fun p d c=>h p (by omega) (by omega) c)];grind
  .
   by_cases g:b=n
   . subst g
     rw[Qgb b f a (by omega) (fun p d c=>h p (by omega) c (by omega))]
   . rw[Qj4 n f a b (by omega) (by omega) hab (fun p d=>h p (by omega)),h n (by omega) (by omega) (by omega),Rat.add_zero]
theorem Qlm{w a:Vz}{B:Nat}{v:Value}(h:w.grownBy a v.ownBlock)(c:∀g,v.ownBlock=some g->B<=g)(hB:B<=w.heap.size):Below B w a:=
 ⟨h.os,h.tape,h.output,h.size,fun b d=>h.block b (by omega) (fun e=>by have:=c b e.symm;omega)⟩
def S2.none:S2:=⟨⟨#[]⟩,⟨#[]⟩⟩
theorem Qqq(n:Nat):madeCells (Value.cells (.agg #[.string ⟨#[]⟩,.string ⟨#[]⟩])) (n*2)=((List.replicate n S2.none).flatMap S2.cells).toArray:=by
 apply Array.ext';apply List.ext_getElem?;intro i;by_cases d:i<n*2
 .
  have b:(List.replicate n S2.none)[i / 2]?=some S2.none:=by rw[List.getElem?_replicate,if_pos (by omega)]
  have a:i % 2=0∨i % 2=1:=by omega
  have e:Value.cells (.agg #[.string ⟨#[]⟩,.string ⟨#[]⟩])=#[.string ⟨#[]⟩,.string ⟨#[]⟩]:=by rfl
  have f:i / 2*2+i % 2=i:=by omega
  have g:(madeCells (Value.cells (.agg #[.string ⟨#[]⟩,.string ⟨#[]⟩])) (n*2)).toList[i]?=some ((#[Value.string ⟨#[]⟩,.string ⟨#[]⟩]:Array Value)[i % 2]!):=by
   rw[e];simp[madeCells,d]
  rw[g];have c:∀u,(S2.cells S2.none)[i % 2]?=some u->((List.replicate n S2.none).flatMap S2.cells)[i]?=some u:=fun u h=>by
   have:=Qbr (sz:=2) (fun _=>rfl) _ _ _ _ _ b h;rw[f] at this;exact this
  simp only[List.toList_toArray];rcases a with a|a
  all_goals
   rw[a] at c ⊢;exact(c _ rfl).symm
 .
  have b:((List.replicate n S2.none).flatMap S2.cells).length=n*2:=by rw[Qas (sz:=2) (fun _=>rfl)];simp
  have j:=size_madeCells (Value.cells (.agg #[.string ⟨#[]⟩,.string ⟨#[]⟩])) (n*2);rw[List.getElem?_eq_none (by rw[Array.length_toList,j];omega),List.getElem?_eq_none (by simp only[List.toList_toArray];rw[b];omega)]
theorem Qqr:(prog.info? 34).map (fun i=>(i.zero,i.size,i.bytes))=some (some (.agg #[.string ⟨#[]⟩,.string ⟨#[]⟩]),2,32):=by kernel_rfl
theorem Qqs(n:Nat)(e:n<=1048576)(w:Vz):(Instr.makeSlice 22 (.int .i64 n) (.int .i64 n)).run prog w=.ok (.slice (some ⟨w.heap.size,0,.none⟩) n n) (w.alloc (.cells ((List.replicate n S2.none).flatMap S2.cells).toArray 34)):=by
 obtain⟨i,a,h⟩:=Option.map_eq_some_iff.1 Qqr;simp only[Prod.mk.injEq] at h;obtain⟨b,c,d⟩:=h;have:=run_make w 22 34 i _ underlying22 a b .i64 .i64 n n (by omega) (by omega) (by rw[d];omega) (by omega);rw[Int.toNat_natCast,c,Qqq] at this;exact this
theorem Qjo:∀(a:List S2) (k:Nat) (e:S2),k<a.length->(a.set k e).flatMap S2.cells=((a.flatMap S2.cells).set (k*2) (.string e.x)).set (k*2+1) (.string e.y)
 | [],k,e,h=>by simp at h
 |t :: l,0,e,_=>by simp[S2.cells]
 |t :: l,k+1,e,h=>by
  have b:=Qjo l k e (by simpa using h);rw[List.set_cons_succ,List.flatMap_cons,b,List.flatMap_cons];simp only[S2.cells,List.cons_append,List.nil_append];rw[show (k+1)*2=k*2+1+1 by omega];simp only[List.set_cons_succ,Nat.add_assoc]
def SpotsTold(x:Vec)(ss:List S2):Prop:=∀(i:Nat) (s:S2),ss[i]?=some s->QText s.x.data.toList (x (2*i))/\QText s.y.data.toList (x (2*i+1))
theorem Qqt(a:Vx)(H n K:Nat)(r:MR)(w:Vz)(z:Glob w)(h:MOk w (2*n) K r)(ae:r.a=a)(af:r.cap=H)(hK:K<=274877906944)(hn:n<=10):
 Calls prog 59 #[.slice a (2*n) H] w fun e w'=>(∃(g:Nat) (f:List S2),e=.returned (.slice (some ⟨g,0,none⟩) n n)/\f.length=n/\SB w' g 34 (f.flatMap S2.cells).toArray/\SpotsTold r.q f)/\Below w.heap.size w w':=by
 subst ae;subst af;obtain⟨I,ag⟩:=Ia h z;have J:=fun w=>Qqs n (by omega) w
 obtain⟨MC,D⟩:=nm (((List.replicate n S2.none).flatMap S2.cells).toArray);rw[D] at J;have ah:=Hi D;have a0:((2*n:Nat):Int).tdiv 2=(n:Int):=by rw[Int.tdiv_eq_ediv_of_nonneg (by omega)];omega
 have a1:IntKind.i64.wrap (n:Int)=(n:Int):=Qam _ (by omega) (by omega);clear h z D;go_enter func59,ntmps59;go_wp2_with fail;clear J;obtain⟨g,z⟩:=nm w.heap.size;obtain⟨V,hV⟩:=nm (w.alloc (.cells MC 34));have ai:O (Below g w V):=Hi (by rw[<-hV,<-z];exact(Below.refl _ _).alloc lZ _);have aj:O (SB V g 34 ((List.replicate n S2.none).flatMap S2.cells).toArray):=Hi (by rw[<-hV,<-z,ah.o];exact SB.new w _ _)
 try rw[hV]
 try rw[z]
 clear hV;go_loopw [11] (fun i wr=>∃(k:Nat) (f:List S2),k<=n/\i=.int .i64 k/\f.length=n/\SB wr g 34 (f.flatMap S2.cells).toArray/\(∀(i:Nat) (s:S2),i<k->f[i]?=some s->QText s.x.data.toList (r.q (2*i))/\QText s.y.data.toList (r.q (2*i+1)))/\Below g w wr) (fun i _=>n - (intOf i).toNat)
 case atStart=>exact⟨0,_,by omega,rfl,by simp,aj.o,fun i s hi=>by omega,ai.o⟩
 case round=>
  obtain⟨k,f,hk,rfl,L,E,A,hb⟩:=hrel;obtain⟨HB,l,HA⟩:=Ib hb E A;have M:=E.lt;have b:=Hi L;clear hb E A L;by_cases a2:k<n
  .
   have m:Below w.heap.size w wr:=by rw[z];exact HB.o
   have N:=I.o.len;obtain⟨t,P⟩:∃t,r.ts[2*k]?=some t:=⟨r.ts[2*k]'(by omega),gE _⟩;obtain⟨u,hu⟩:∃u,r.ts[2*k+1]?=some u:=⟨r.ts[2*k+1]'(by omega),gE _⟩;have c:=I.o.row.below m;obtain⟨fb,ak,F,a3,d0,d1,d2⟩:=c.at P;obtain⟨Q,R,al,am,S,an,ao,ap,T⟩:=Ih (c.get P) hu (I.o.sz t (mO P)) (I.o.sz u (mO hu)) (ag.o.below m) (MR.q_at P) (MR.q_at hu) m (fun v=>Qcn k v (by omega));have U:=Hi (fun v=>Qco k v (by omega));have q1:((k:Int)<(n:Int)):=by omega
   have q2:((2*k:Nat):Int)<((2*n:Nat):Int):=by omega
   have q3:((2*k+1:Nat):Int)<((2*n:Nat):Int):=by omega
   have ek:(2*(k:Int))=((2*k:Nat):Int):=by omega
   have W:(2*(k:Int)+1)=((2*k+1:Nat):Int):=by omega
   simp only[ek] at T;simp only[W] at U;obtain⟨s0,X⟩:∃s0,f[k]?=some s0:=⟨f[k]'(by have:=b.o;omega),gE _⟩;obtain⟨aq,ar⟩:=Ia X F;rw[F];clear P m X N c hu ek W F;go_wp2_with fail;go_fit (T.o wr);rintro e w1 ⟨rfl,rfl⟩;go_wp2_with fail;go_fit (Qdr (S.o.tab (by unfold hasTen;kernel_rfl)) Q.o.1 (Q.o.2.1.mono al.o) hK);rintro e w2 ⟨⟨s,rfl,Y⟩,Z⟩;obtain⟨au,j⟩:=Ia Y Z;clear Y Z d0 d1 d2;go_wp2_with fail;go_fit (U.o w2);rintro e w3 ⟨rfl,rfl⟩;have c:=(I.o.row.below ap.o).below j.o;obtain⟨av,aa,B,az,d0,d1,d2⟩:=c.at R.o;have ab:=Hi (c.get R.o);obtain⟨e1,e2⟩:fb=av/\ak=aa:=by
    have:=ar.o.symm.trans B
    simpa using this
   subst e1;subst e2;clear c B;go_wp2_with fail;go_fit (Qdr ((S.o.below j.o).tab (by unfold hasTen;kernel_rfl)) ab.o.1 (ab.o.2.1.mono am.o) hK);rintro e w4 ⟨⟨s',rfl,C⟩,G⟩;have ad:=Hi C;obtain⟨aw,d⟩:=Ia G ((l.o.below j.o l.o.lt).below G (l.o.below j.o l.o.lt).lt);have f0:=d.o.free (k*2);have f1:=d.o.free (k*2+1);have hA:ARow S2.cells w4 (some ⟨g,0,none⟩) n f:=d.o.arow rfl (by have:=b.o;omega);obtain⟨bb,oo,ax,_,t0,t1⟩:=hA.spot aq.o;cases ax;simp only[Nat.zero_add] at t0 t1;clear C G d0 d1 d2 hA;go_wp2;go_roundw
   case rel=>
    refine⟨k+1,f.set k ⟨s,s'⟩,by omega,by go_num,by rw[List.length_set];exact b.o,?_,fun i y hi hy=>?_,(((HB.o.trans (j.o.mono (Nat.le_of_lt M))).trans (aw.o.mono (Nat.le_trans (Nat.le_of_lt M) j.o.size))).setCell (p:=⟨g,k*2,none⟩) lZ _).setCell (p:=⟨g,k*2+1,none⟩) lZ _⟩
    .
     have:=(d.o.set (k*2) (.string s)).set (k*2+1) (.string s');rw[Qjo _ _ _ (by have:=b.o;omega)]
     simpa using this
    .
     rcases Nat.lt_or_ge i k with h1|h1
     . rw[List.getElem?_set_ne (by omega)] at hy
       exact HA.o i y h1 hy
     .
      obtain rfl:i=k:=by omega
      rw[List.getElem?_set_self (by have:=b.o;omega)] at hy;obtain rfl:=Option.some.inj hy;exact⟨an.o ▸ au.o,ao.o ▸ ad.o⟩
   case measure=>simp[intOf];omega
  .
   have ay:k=n:=by omega
   subst ay;go_wp2;go_ret;rw[z];exact⟨⟨g,f,rfl,b.o,l.o,fun i s hs=>HA.o i s (by have:=(gZ hs).1;have:=b.o;omega) hs⟩,HB.o⟩
theorem Qm8(p:Rat):p*(p.den:Rat)=(p.num:Rat):=by
 have a:(p.den:Rat)≠0:=by
  intro h;exact p.den_nz (Rat.natCast_inj.1 (by rw[h];rfl))
 have:p=(p.num:Rat) / (p.den:Rat):=by rw[<-Rat.mkRat_eq_div,Rat.mkRat_self]
 rw[Rat.div_def] at this;have e:p*(p.den:Rat)=(p.num:Rat)*(p.den:Rat)⁻¹*(p.den:Rat):=by rw[<-this]
 rw[e,Rat.mul_assoc,Rat.inv_mul_cancel _ a,Rat.mul_one]
def denP:List Rat->Nat
 | []=>1
 |q :: l=>q.den*denP l
theorem Qe5:∀l:List Rat,0<denP l
 | []=>by decide
 |q :: l=>Nat.mul_pos q.den_pos (Qe5 l)
theorem Qdd:∀(l:List (Rat × Nat)),(∀p,p∈ l->Fits p.1 p.2)->denP (l.map (·.1))<=2 ^ (l.map (·.2)).sum
 | [],_=>by decide
 |p :: l,h=>by
  rw[List.map_cons,List.map_cons,denP,List.sum_cons,Nat.pow_add];exact Nat.mul_le_mul (Nat.le_of_lt (h p (by simp)).2) (Qdd l fun q a=>h q (by simp[a]))
def Wh(P b:Nat)(q:Rat):Prop:=∃z:Int,q*(P:Rat)=(z:Rat)/\z.natAbs<=2 ^ b
theorem Wh.mono{P b c:Nat}{q:Rat}(h:Wh P b q)(a:b<=c):Wh P c q:=by
 obtain⟨z,e,d⟩:=h;exact⟨z,e,Nat.le_trans d (Nat.pow_le_pow_right (by decide) a)⟩
theorem Wh.zero(P b:Nat):Wh P b 0:=⟨0,by rw[Rat.zero_mul];rfl,by simp⟩
theorem Wh.neg{P b:Nat}{q:Rat}(h:Wh P b q):Wh P b (-q):=by
 obtain⟨z,e,a⟩:=h;refine⟨-z,?_,by rw[Int.natAbs_neg];exact a⟩;rw[Rat.intCast_neg,<-e];grind
theorem Wh.sub{P b:Nat}{p q:Rat}(h:Wh P b p)(k:Wh P b q):Wh P (b+1) (p - q):=by
 obtain⟨y,e,a⟩:=h;obtain⟨z,f,c⟩:=k;refine⟨y - z,?_,?_⟩
 . rw[Rat.intCast_sub,<-e,<-f]
   grind
 . rw[Nat.pow_succ]
   omega
theorem Wh.one{P b:Nat}(h:P<=2 ^ b):Wh P b 1:=⟨(P:Int),by rw[Rat.one_mul,Rat.intCast_natCast],by simpa using h⟩
theorem Qm9{a b:Nat}(c:a=2 ^ b):(20+1)*(a*(2*((20+1)*a)) ^ 20)<=2 ^ (5+(b+(6+b)*20)):=by
 have f:2 ^ 6=64:=by decide
 have e:2*((20+1)*a)<=2 ^ (6+b):=by rw[Nat.pow_add,c];omega
 have d:(2*((20+1)*a)) ^ 20<=(2 ^ (6+b)) ^ 20:=Nat.pow_le_pow_left e 20;rw[<-Nat.pow_mul] at d;rw[Nat.pow_add 2 5,Nat.pow_add 2 b,<-c];exact Nat.mul_le_mul (by decide) (Nat.mul_le_mul_left _ d)
abbrev kE(b:Nat):Nat:=21*b+126
abbrev kC(b:Nat):Nat:=22*b+126
abbrev kW(b:Nat):Nat:=41*kC b+20
theorem Qna{b W P:Nat}{M:List Vec}(m:0<P)(e:P<=2 ^ b)(f:∀r,r∈ M->∀j,Wh P b (r j))(n:∀r,r∈ M->∀i,W<=i->r i=0)(hl:M.length<=20∨W<=20):
 Going (kE b) (MJ W 20 (kC b) M)/\MJ W 20 (kC b) M 0 M [] []/\∀L S c,MJ W 20 (kC b) M W L S c->(Ech 0 W S c/\∀x,Null W M x↔Null W S x)/\clnFits (kW b) S c/\∀v,v∈ cln S c->∀i,Fits (v i) (kC b):=by
 have g:∀j:Nat,0<(fun _=>P) j/\(fun _=>P) j<=2 ^ b:=fun _=>⟨m,e⟩
 have k:=Qm9 (a:=2 ^ b) (b:=b) rfl;have l:0<2 ^ b:=Nat.pow_pos (by decide);have o:(20+1)*(2 ^ b*(2*((20+1)*2 ^ b)) ^ 20)<2 ^ kE b:=Nat.lt_of_le_of_lt k (Nat.pow_lt_pow_right (by decide) (by simp only[kE];omega));have d:(20+1)*(2 ^ b*(2*((20+1)*2 ^ b)) ^ 20)*2 ^ b<2 ^ kC b:=by
  refine Nat.lt_of_le_of_lt (Nat.mul_le_mul_right _ k) ?_;rw[<-Nat.pow_add];exact Nat.pow_lt_pow_right (by decide) (by simp only[kC];omega)
 refine⟨MJ.going (D:=fun _=>P) l g f o (by simp only[kE];omega) d (by simp only[kC];omega),MJ.start W 20 _ M n hl,fun L S c h=>⟨h.1.done,?_⟩⟩;exact MJ.clean (D:=fun _=>P) l g f d (by simp only[kC];omega) (by simp only[kW,kC];omega) h
theorem Going.mono{K K':Nat}{I:Nat->List Vec->List Vec->List Nat->Prop}(h:Going K I)(a:K<=K'):Going K' I:=⟨fun b r c i=>(h.fit b r c i).mono a,h.skip,h.step⟩
theorem FrameFault.few{a:List S2}{d:List B6}{c:List H3}{x:Int}(h:FrameFault a d c 0 x):¬Many a.length d.length c.length/\(∀(i:Nat) (b:B6),d[i]?=some b->BarCode a b 0)/\(∀i y,c[i]?=some y->holdAt a.length c i y=0)/\x=0:=by
 rcases h with ⟨_,h,_⟩|⟨_,k,b,_,_,_,h,_⟩|⟨e,f,h⟩
 . cases h
 . exact absurd rfl h
 .
  rcases h with ⟨_,_,_,_,_,h,_⟩|⟨g,_,j⟩
  . exact absurd rfl h
  . exact⟨e,f,g,j⟩
theorem Qnm{d:List S2}{A:List B6}{c:List H3}(n:FrSized d A c){b:B6}(h:BarCode d b 0):∃p:Nat × Nat × Rat × Rat,BarV 1048576 d b p/\p.1<d.length/\p.2.1<d.length/\¬(p.2.2.1=0/\p.2.2.2=0):=by
 rcases h with ⟨_,h⟩|⟨o,q,s,t,c,g,i,k,l,m,D,E,F,r,u,v,w,_,_,_,x⟩
 . cases h
 have f:¬(i=l/\k=m):=fun e=>by rw[if_pos e] at x;cases x
 have y:=n.j s (mO c);have z:=n.j t (mO g);have G:=o.1;have H:=q.1;have I:=o.2;have J:=q.2;refine⟨(b.a.toNat,b.b.toNat,l - i,m - k),⟨by simp only;omega,by simp only;omega,fun e=>?_,s,t,i,k,l,m,c,g,y.1,y.2,z.1,z.2,r,u,v,w,rfl,rfl⟩,by simp only;omega,by simp only;omega,fun ⟨B,C⟩=>f ⟨?_,?_⟩⟩
 .
  simp only at e;rw[e,g] at c;cases c;exact f ⟨r.inj v,u.inj w⟩
 . simp only at B
   grind
 . simp only at C
   grind
theorem Ql8{n:Nat}{a:List H3}{i:Nat}{h:H3}(k:holdAt n a i h=0):∃r:Nat,HoldV n h r:=by
 unfold holdAt holdC at k;have b:0<=h.j/\h.j<n:=by
  apply bC;intro c;rw[if_neg c] at k;cases k
 obtain⟨d,e⟩:=b;exact⟨_,h.j.toNat,by omega,by omega,rfl⟩
theorem Ql9{a:List S2}{d:List B6}{k:List H3}(w:FrSized a d k){x:Int}(h:FrameFault a d k 0 x):∃(u:List (Nat × Nat × Rat × Rat)) (vh:Vy),FrV 1048576 a d k u vh/\∀p,p∈ u->p.1<a.length/\p.2.1<a.length/\¬(p.2.2.1=0/\p.2.2.2=0):=by
 obtain⟨n,j,z,_⟩:=h.few;have o:∀i:Nat,∃p:Nat × Nat × Rat × Rat,∀b,d[i]?=some b->BarV 1048576 a b p/\p.1<a.length/\p.2.1<a.length/\¬(p.2.2.1=0/\p.2.2.2=0):=fun i=>by
  rcases l:d[i]? with _|b
  . exact⟨(0,0,0,0),fun b j=>by cases j⟩
  . obtain⟨p,c⟩:=Qnm w (j i b l)
    exact⟨p,fun C e=>by cases e;exact c⟩
 have q:∀i:Nat,∃r:Nat,∀y,k[i]?=some y->HoldV a.length y r:=fun i=>by
  rcases l:k[i]? with _|y
  . exact⟨0,fun b j=>by cases j⟩
  . obtain⟨r,s⟩:=Ql8 (z i y l)
    exact⟨r,fun D e=>by cases e;exact s⟩
 obtain⟨f,v⟩:=Classical.axiomOfChoice o;obtain⟨g,A⟩:=Classical.axiomOfChoice q;have m:∀{β:Type} (F:Nat->β) (L i:Nat) (p:β),((List.range L).map F)[i]?=some p->i<L/\p=F i:=fun F L i p c=>by
  have hl:=(gZ c).1;rw[List.length_map,List.length_range] at hl;rw[List.getElem?_map,List.getElem?_range hl] at c;exact⟨hl,(Option.some.inj c).symm⟩
 refine⟨(List.range d.length).map f,(List.range k.length).map g,⟨?_,?_,?_,by simp,by simp,fun i b p j c=>?_,fun i y r B s=>?_,Nat.le_refl _⟩,fun p c=>?_⟩
 . exact Nat.le_of_not_lt fun h=>n (.inr (.inl h))
 . exact Nat.le_of_not_lt fun h=>n (.inr (.inr (.inl h)))
 . exact Nat.le_of_not_lt fun h=>n (.inr (.inr (.inr h)))
 . obtain⟨_,rfl⟩:=m f _ _ _ c
   exact(v i b j).1
 . obtain⟨_,rfl⟩:=m g _ _ _ s
   exact A i y B
 .
  obtain⟨i,l,rfl⟩:=List.mem_map.1 c;have t:=List.mem_range.1 l;exact(v i d[i] (gE t)).2
def jW:List S2->Nat
 | []=>0
 |s :: l=>s.x.size+s.y.size+jW l
theorem Qma(s:Vs):s.data.toList.length=s.size:=by rw[Array.length_toList];rfl
theorem QOf.fits'{s:Vs}{q:Rat}{n:Nat}(h:QOf s.data.toList q)(a:s.size<=n):Fits q (4*n+1):=h.fits (by rw[Qma];exact a)
theorem Qhc:∀b:List S2,∃l:List (Rat × Nat),(∀p,p∈ l->Fits p.1 p.2)/\(l.map (·.2)).sum=4*jW b+2*b.length/\∀s,s∈ b->∀x y,QOf s.x.data.toList x->QOf s.y.data.toList y->x∈ l.map (·.1)/\y∈ l.map (·.1)
 | []=>⟨[],(fun p a=>by cases a),rfl,(fun s h=>by cases h)⟩
 |s :: b=>by
  obtain⟨l,i,j,k⟩:=Qhc b;obtain⟨x,d⟩:=QOf.ex s.x.data.toList;obtain⟨y,e⟩:=QOf.ex s.y.data.toList;refine⟨(x,4*s.x.size+1) :: (y,4*s.y.size+1) :: l,fun p a=>?_,?_,fun t c u v f g=>?_⟩
  .
   rcases List.mem_cons.1 a with rfl|a
   . exact d.fits' lZ
   .
    rcases List.mem_cons.1 a with rfl|a
    . exact e.fits' lZ
    . exact i p a
  . simp only[List.map_cons,List.sum_cons,j,jW,List.length_cons]
    omega
  .
   rcases List.mem_cons.1 c with rfl|c
   . rw[f.inj d,g.inj e]
     simp
   . obtain⟨k1,k2⟩:=k t c u v f g
     exact⟨List.mem_cons_of_mem _ (List.mem_cons_of_mem _ k1),List.mem_cons_of_mem _ (List.mem_cons_of_mem _ k2)⟩
structure FrP (P b:Nat) (vb:List (Nat × Nat × Rat × Rat)):Prop where
 pos:0<P
 le:P<=2 ^ b
 wh:∀p,p∈ vb->Wh P b p.2.2.1/\Wh P b p.2.2.2
theorem FrP.at{P b nb:Nat}{a:List (Nat × Nat × Rat × Rat)}{vh:Vy}(h:FrP P b a)(r c:Nat):Wh P b (balM a nb vh r c):=by
 unfold balM;cases hp:a[c]? with
 |none=>
  simp only;cases vh[c - nb]? with
  |none=>exact Wh.zero _ _
  |some x=>
   simp only
   split
   . exact Wh.one h.le
   . exact Wh.zero _ _
 |some p=>
  obtain⟨w1,w2⟩:=h.wh p (mO hp);simp only[barAt]
  split
  . exact w1
  .
   split
   . exact w1.neg
   .
    split
    . exact w2
    .
     split
     . exact w2.neg
     . exact Wh.zero _ _
def lW:List L3->Nat
 | []=>0
 |s :: l=>s.x.size+s.y.size+lW l
theorem Qez:∀{l:List L3} {s:L3},s∈ l->s.x.size<=lW l/\s.y.size<=lW l
 |t :: l,s,h=>by
  rcases List.mem_cons.1 h with rfl|h
  . simp only[lW];omega
  . have:=Qez h;simp only[lW];omega
theorem Qhd:∀b:List L3,∃l:List (Rat × Nat),(∀p,p∈ l->Fits p.1 p.2)/\(l.map (·.2)).sum=4*lW b+2*b.length/\∀s,s∈ b->∀x y,QOf s.x.data.toList x->QOf s.y.data.toList y->x∈ l.map (·.1)/\y∈ l.map (·.1)
 | []=>⟨[],(fun p a=>by cases a),rfl,(fun s h=>by cases h)⟩
 |s :: js=>by
  obtain⟨l,i,j,k⟩:=Qhd js;obtain⟨x,d⟩:=QOf.ex s.x.data.toList;obtain⟨y,e⟩:=QOf.ex s.y.data.toList;refine⟨(x,4*s.x.size+1) :: (y,4*s.y.size+1) :: l,fun p a=>?_,?_,fun t c u v f g=>?_⟩
  .
   rcases List.mem_cons.1 a with rfl|a
   . exact d.fits' lZ
   .
    rcases List.mem_cons.1 a with rfl|a
    . exact e.fits' lZ
    . exact i p a
  . simp only[List.map_cons,List.sum_cons,j,lW,List.length_cons]
    omega
  .
   rcases List.mem_cons.1 c with rfl|c
   . rw[f.inj d,g.inj e]
     simp
   . obtain⟨k1,k2⟩:=k t c u v f g
     exact⟨List.mem_cons_of_mem _ (List.mem_cons_of_mem _ k1),List.mem_cons_of_mem _ (List.mem_cons_of_mem _ k2)⟩
def WhN(P b a:Nat)(q:Rat):Prop:=∃z:Int,q*(P:Rat)=(z:Rat)/\z.natAbs<=a*2 ^ b
theorem WhN.sub{P b a:Nat}{p q:Rat}(h:WhN P b a p)(k:Wh P b q):WhN P b (a+1) (p - q):=by
 obtain⟨y,e,c⟩:=h;obtain⟨z,f,d⟩:=k;refine⟨y - z,?_,?_⟩
 . rw[Rat.intCast_sub,<-e,<-f]
   grind
 . rw[Nat.add_mul,Nat.one_mul]
   omega
theorem WhN.mono{P b a c:Nat}{q:Rat}(h:WhN P b a q)(d:a<=c):WhN P b c q:=by
 obtain⟨z,e,f⟩:=h;exact⟨z,e,Nat.le_trans f (Nat.mul_le_mul_right _ d)⟩
theorem Qe0{P b:Nat}:∀(k:Nat) (vs:List (Nat × Rat × Rat)),(∀p,p∈ vs->Wh P b p.2.1/\Wh P b p.2.2)->∀i,WhN P b k (agn (vs.take k) i)
 |0,vs,h,i=>⟨0,by simp[agn,Rat.zero_mul],by simp⟩
 |k+1,vs,h,i=>by
  cases hp:vs[k]? with
  |none=>
   have e:vs.take (k+1)=vs.take k:=by rw[List.take_add_one,hp];simp
   rw[e];exact(Qe0 k vs h i).mono (by omega)
  |some p=>
   rw[Qcp hp];have a:=Qe0 k vs h;obtain⟨w1,w2⟩:=h p (mO hp);by_cases c:i=2*p.1
   . rw[c,agn_x];exact(a _).sub w1
   .
    by_cases d:i=2*p.1+1
    . rw[d,agn_y];exact(a _).sub w2
    .
     have:agnStep (agn (vs.take k)) p i=agn (vs.take k) i:=by
      unfold agnStep;rw[Qat _ _ d,Qat _ _ c]
     rw[this];exact(a i).mono (by omega)
theorem Wh.fits{P b:Nat}{q:Rat}(h:Wh P b q)(a:0<P)(c:P<=2 ^ b):Fits q (b+1):=by
 obtain⟨z,e,f⟩:=h;have g:2 ^ b<2 ^ (b+1):=Nat.pow_lt_pow_right (by decide) (by omega);refine Qf3 (Z:=z) (y:=1) (d:=P) (by decide) a ?_ (by omega) (by simp;omega) (by omega);rw[<-e]
 show q*(((1:Int):Rat)*(P:Rat))=q*(P:Rat)
 rw[show ((1:Int):Rat)=1 from rfl,Rat.one_mul]
theorem Qe1{α β γ:Type}{f:α->β->γ}:∀{l:List α} {m:List β} {r:γ},r∈ List.zipWith f l m->∃a,a∈ l/\∃b,b∈ m/\r=f a b
 |a :: l,b :: m,r,h=>by
  rw[List.zipWith_cons_cons] at h;rcases List.mem_cons.1 h with rfl|h
  . exact⟨a,by simp,b,by simp,rfl⟩
  . obtain⟨c,d,g,i,e⟩:=Qe1 h
    exact⟨c,by simp[d],g,by simp[i],e⟩
 | [],m,r,h=>by simp at h
 |a :: l,[],r,h=>by simp at h
theorem Qbm{b:Nat}{q:Rat}(h:q=0∨q=1∨q= -1):Wh 1 b q:=by
 rcases h with rfl|rfl|rfl
 . exact Wh.zero _ _
 . exact Wh.one Nat.one_le_two_pow
 . exact(Wh.one Nat.one_le_two_pow).neg
abbrev RT:=Nat × Rat × Nat
def ptrV(t:RT):Value:=.pointer (some ⟨t.1,0,none⟩)
def IsPt(u:Value):Prop:=∃p,u=Value.pointer p
theorem Qgl(ts:List RT):∀u,u∈ ts.map ptrV->IsPt u:=fun u a=>by
 obtain⟨t,_,rfl⟩:=List.mem_map.1 a;exact⟨_,rfl⟩
theorem Qsp(ts:List RT):∀u,u∈ ts.map ptrV->u.oneCell'=true:=fun u a=>by
 obtain⟨t,_,rfl⟩:=List.mem_map.1 a;rfl
structure Fp (w w':Vz):Prop where
 size:w.heap.size<=w'.heap.size
 keep:∀b i u,w.cell? ⟨b,i,none⟩=some u->¬IsPt u->w'.heap[b]?=w.heap[b]?
theorem Fp.of_only{w c:Vz}{g:Nat}{t:Vr}{C:Vw}(d:Only g w c)(e:SB w g t C)(hC:∀u,u∈ C.toList->IsPt u):Fp w c:=by
 refine⟨d.size,fun b i u a hk=>d.block b (World.block_lt_of_cell? _ _ a) ?_⟩;rintro rfl;rw[e.cell] at a;exact hk (hC u (mO (by rw[Array.getElem?_toList];exact a)))
theorem Fp.grown{w c:Vz}{B n:Nat}{e:Vr}{v:Value}{xs:Vv}(d:Grow w B e 1 IsPt v n xs)(h:w.grownBy c v.ownBlock):Fp w c:=by
 refine⟨h.size,fun b i u a hk=>h.block b (World.block_lt_of_cell? _ _ a) (fun e=>?_)⟩;obtain⟨C,hC,f⟩:=d.sb e.symm;rw[hC.cell] at a;exact hk (f u (mO (by rw[Array.getElem?_toList];exact a)))
theorem Fp.cell{w a:Vz}(h:Fp w a){b i:Nat}{u:Value}(c:w.cell? ⟨b,i,none⟩=some u)(hk:¬IsPt u)(j:Nat):a.cell? ⟨b,j,none⟩=w.cell? ⟨b,j,none⟩:=World.cell?_of_block (w:=w) (h.keep b i u c hk)
theorem Qsq(x:Bool):¬IsPt (.bool x):=fun ⟨p,e⟩=>by cases e
theorem Qsr(k:IntKind)(n:Int):¬IsPt (.int k n):=fun ⟨p,e⟩=>by cases e
theorem Qss(s:Vs):¬IsPt (.string s):=fun ⟨p,e⟩=>by cases e
theorem Row.fp{k:IntKind}{w g:Vz}{a:Vx}{c:Nat}{l:Vy}(h:Row k w a c l)(d:Fp w g):Row k g a c l:=by
 refine⟨h.fit,?_,fun i m=>?_⟩
 .
  rcases h.shape with e|⟨f,b,rfl,n⟩
  . exact .inl e
  . exact .inr ⟨f,b,rfl,by have:=d.size;omega⟩
 . obtain⟨f,b,e,n,j⟩:=h.cell i m
   exact⟨f,b,e,by have:=d.size;omega,(d.cell j (Qsr _ _) _).trans j⟩
theorem SB.fp{w a:Vz}{b:Nat}{t:Vr}{C:Vw}{u:Value}{i:Nat}(h:SB w b t C)(c:Fp w a)(d:C[i]?=some u)(f:¬IsPt u):SB a b t C:=by
 have e:=c.keep b i u (by rw[h.cell];exact d) f;unfold SB at h ⊢;rw[e];exact h
theorem RatVal.fp{w d:Vz}{b:Nat}{q:Rat}(h:RatVal w b q)(c:Fp w d):RatVal d b q:=by
 obtain⟨D,e,c1,f,g,c2,j,a,k⟩:=h;exact⟨D,e,c1,f,g,c2,j,⟨a.sb.fp c (i:=0) rfl (Qsq _),⟨a.num.row.fp c,a.num.num,a.num.short⟩,⟨a.den.row.fp c,a.den.num,a.den.short⟩⟩,k⟩
def RVs(w:Vz)(ts:List RT):Prop:=∀t,t∈ ts->RatVal w t.1 t.2.1/\Fits t.2.1 t.2.2/\0<t.2.2
theorem RVs.below{w a:Vz}{ts:List RT}(h:RVs w ts)(c:Bl w a):RVs a ts:=fun t b=>⟨(h t b).1.below c,(h t b).2⟩
theorem RVs.fp{w a:Vz}{ts:List RT}(h:RVs w ts)(c:Fp w a):RVs a ts:=fun t b=>⟨(h t b).1.fp c,(h t b).2⟩
structure PRow (w:Vz) (a:Vx) (ts:List RT):Prop where
 row:CRow w a (ts.map ptrV)
 vs:RVs w ts
theorem PRow.below{w b:Vz}{a:Vx}{ts:List RT}(h:PRow w a ts)(c:Bl w b):PRow b a ts:=⟨h.row.below c,h.vs.below c⟩
theorem PRow.at{w:Vz}{a:Vx}{ts:List RT}(h:PRow w a ts){i:Nat}{t:RT}(d:ts[i]?=some t):∃b c,a=some ⟨b,c,none⟩/\b<w.heap.size/\w.cell? ⟨b,c+i,none⟩=some (.pointer (some ⟨t.1,0,none⟩)):=h.row.cell i (ptrV t) (by rw[List.getElem?_map,d];rfl)
theorem Qkj:(prog.info? 63).map (fun i=>(i.zero,i.size,i.bytes))=some (some (.pointer none),1,8):=by kernel_rfl
structure PGrow (w:Vz) (B:Nat) (v:Value) (ts:List RT):Prop where
 list:Grow w B 63 1 IsPt v ts.length (ts.map ptrV)
 vs:RVs w ts
theorem PGrow.below{w a:Vz}{B:Nat}{v:Value}{ts:List RT}(h:PGrow w B v ts)(b:Bl w a):PGrow a B v ts:=⟨h.list.below b,h.vs.below b⟩
theorem PGrow.alloc{w:Vz}{B:Nat}{v:Value}{ts:List RT}(h:PGrow w B v ts)(o:Obj):PGrow (w.alloc o) B v ts:=h.below (bR.alloc lZ _)
theorem PGrow.nil(w:Vz)(B:Nat):PGrow w B (.slice none 0 0) []:=⟨Grow.nil _ _ _ _ _,fun t a=>by cases a⟩
theorem PGrow.row{w:Vz}{B:Nat}{v:Value}{ts:List RT}(h:PGrow w B v ts):∃a b,v=.slice a ts.length b/\PRow w a ts:=by
 obtain⟨a,b,e,_,c,_⟩:=h.list.slice;exact⟨a,b,e,c,h.vs⟩
theorem PGrow.appT{w:Vz}{B nb c m:Nat}{v:Value}{ts us:List RT}{t:Vr}(h:PGrow w B v ts)(a:prog.underlying t=some (.slice 63))(e:RVs w us)(n:us.length=m)(o:∀j u,(us.map ptrV)[j]?=some u->w.cell? ((⟨nb,0,none⟩:Addr).add j)=some u)(p:ts.length+m<=1048576)(hB:B<=w.heap.size)(ty:Vr):
 ∃d b,appR prog t ty v (.slice (some ⟨nb,0,none⟩) m c) w=.ok d b/\PGrow b B d (ts++us)/\Below B w b/\Fp w b/\w.grownBy b v.ownBlock/\(d.ownBlock=v.ownBlock∨d.ownBlock=some w.heap.size):=by
 subst n;obtain⟨i,q,r⟩:=Option.map_eq_some_iff.1 Qkj;injection r with s f
 injection f with f x
 obtain⟨d,b,y,z,k,A⟩:=h.list.app (P:=prog) (t:=t) (ty:=ty) a q s f x rfl (by decide) (fun u e=>⟨none,by simpa [Value.cells] using e⟩) ⟨nb,0,none⟩ us.length c (us.map ptrV) (by simp) o (Qsp us) (Qgl us) p (by decide) hB;have l:=Fp.grown h.list k;refine⟨d,b,y,⟨?_,fun t a=>?_⟩,Qlm k (fun g C=>(h.list.lt C).1) hB,l,k,A⟩
 . rw[List.length_append,List.map_append]
   exact z
 .
  rcases List.mem_append.1 a with a|a
  . exact(h.vs.fp l) t a
  . exact(e.fp l) t a
theorem PGrow.app{w:Vz}{B nb c m:Nat}{v:Value}{ts us:List RT}(h:PGrow w B v ts)(d:RVs w us)(e:us.length=m)(f:∀j u,(us.map ptrV)[j]?=some u->w.cell? ((⟨nb,0,none⟩:Addr).add j)=some u)(g:ts.length+m<=1048576)(hB:B<=w.heap.size)(ty:Vr):
 ∃b a,appR prog 38 ty v (.slice (some ⟨nb,0,none⟩) m c) w=.ok b a/\PGrow a B b (ts++us)/\Below B w a/\Fp w a:=by
 obtain⟨b,a,i,k,l,n,_⟩:=h.appT underlying38 d e f g hB ty;exact⟨b,a,i,k,l,n⟩
structure MotVals (ss:List S2) (ts:List RT) (K:Nat):Prop where
 len:ts.length=2*ss.length
 val:∀(i:Nat) (s:S2),ss[i]?=some s->∃t u:RT,ts[2*i]?=some t/\ts[2*i+1]?=some u/\QOf s.x.data.toList t.2.1/\QOf s.y.data.toList u.2.1/\t.2.2=K/\u.2.2=K
theorem MotVals.snoc{b:List S2}{k K:Nat}{s:S2}{ts:List RT}{t u:RT}(h:MotVals (b.take k) ts K)(j:b[k]?=some s)(l:QOf s.x.data.toList t.2.1)(m:QOf s.y.data.toList u.2.1)(f:t.2.2=K)(g:u.2.2=K):MotVals (b.take (k+1)) (ts++ [t,u]) K:=by
 have hk:=(gZ j).1;have hl:(b.take k).length=k:=by rw[List.length_take];omega
 have a:=h.len;rw[hl] at a;have e:b.take (k+1)=b.take k++ [s]:=by rw[List.take_add_one,j];rfl
 refine⟨by rw[e,List.length_append,List.length_append,h.len];simp;omega,fun i r c=>?_⟩;rw[e] at c;by_cases n:i<k
 .
  rw[List.getElem?_append_left (by omega)] at c;obtain⟨o,p,q,v,w⟩:=h.val i r c;exact⟨o,p,by rw[List.getElem?_append_left (by omega)];exact q,by rw[List.getElem?_append_left (by omega)];exact v,w⟩
 .
  have d:i=k:=by
   have:=(gZ c).1;rw[List.length_append,hl] at this;simp at this;omega
  subst d;rw[List.getElem?_append_right (by omega),hl,Nat.sub_self] at c;obtain rfl:=Option.some.inj c;refine⟨t,u,?_,?_,l,m,f,g⟩
  . rw[List.getElem?_append_right (by omega),a,Nat.sub_self];rfl
  . rw[List.getElem?_append_right (by omega),a,show 2*i+1 - 2*i=1 by omega];rfl
theorem RVs.two{w0 u:Vz}{L:List RT}{s t:RT}(h:RBag w0 u L)(b:s∈ L)(c:t∈ L):RVs u [s,t]:=fun x a=>by
 simp only[List.mem_cons,List.not_mem_nil,or_false] at a;rcases a with rfl|rfl
 . exact h.ts _ b
 . exact h.ts _ c
theorem Qjp{w0 u c:Vz}{b i:Nat}{s:Vs}(e:Fp u c)(f:Bl w0 u)(a:b<w0.heap.size)(g:w0.cell? ⟨b,i,none⟩=some (.string s)):c.cell? ⟨b,i,none⟩=some (.string s):=by
 have d:u.cell? ⟨b,i,none⟩=some (.string s):=ce f a g;exact(e.cell d (Qss _) i).trans d
theorem Qqu{ops:Array Oper}{o:Oper}{a:Act}{u:Vz}{K':Act->World->Prop}{Q:Exit->Act->World->Prop}{E:Prop}(g:o.guard=none)(e x:Operand)(f:o.op=Op.call { callee:=Callee.builtin Builtin.append,args:=#[e,x],argTypes:=#[38,38] })
 {B nb c:Nat} {v:Value} {ts:List RT} {s t:RT} (h:a.eval e=v) (i:a.eval x=.slice (some ⟨nb,0,none⟩) 2 c) (hG:PGrow u B v ts) (hV:RVs u [s,t]) (hC:SB u nb 63 #[ptrV s,ptrV t]) (k:ts.length+2<=1048576) (hB:B<=u.heap.size)
 (l:∀d b,PGrow b B d (ts++ [s,t])->Below B u b->Fp u b->K' (a.put o.dst d) b):
 if Region.wanted o (yielded ops a.tmps)=true then Oper.wp prog o a u K' Q else E:=by
 obtain⟨d,b,n,p,q,r⟩:=hG.app (us:=[s,t]) (m:=2) (nb:=nb) (c:=c) hV rfl (fun j y w=>by
  rw[Qao,Nat.zero_add,hC.cell];rw[<-w]
  simp) k hB o.type
 exact Qbj g e x f h i n (l d b p q r)
theorem Qqv(a:Vx)(D n:Nat)(g:List S2)(w:Vz)(T:∃m,w.cell? ⟨4,0,none⟩=some (.int .i64 m))(h:ARow S2.cells w a D g)(hl:g.length<=500000)(hn:n<=1073741824)(q:∀s,s∈ g->s.x.size<=n/\s.y.size<=n):
 Calls prog 30 #[.slice a g.length D] w fun e U=>∃(v:Value) (ts:List RT),e=.returned v/\PGrow U w.heap.size v ts/\MotVals g ts (4*n+1)/\Below w.heap.size w U:=by
 obtain⟨Z,N,HS⟩:=Ib h (RBag.start T) q;clear h T q;go_enter func30,ntmps30;go_wp2_with fail;go_loopw [8,3] (fun P ov wr=>∃(k:Nat) (ts:List RT),k<=g.length/\P=.int .i64 k/\PGrow wr w.heap.size ov ts/\MotVals (g.take k) ts (4*n+1)/\Below w.heap.size w wr) (fun P _ _=>g.length - (intOf P).toNat)
 case atStart=>exact⟨0,[],Nat.zero_le _,rfl,PGrow.nil _ _,⟨rfl,fun i s hi=>by simp at hi⟩,Below.refl _ _⟩
 case round=>
  obtain⟨k,ts,hk,rfl,E,F,G⟩:=hrel;obtain⟨H,r,j⟩:=Ib E F G;clear E F G;by_cases Q:k<g.length
  .
   obtain⟨s,q⟩:∃s,g[k]?=some s:=⟨g[k],gE Q⟩;obtain⟨fb,aa,rfl,ab,c0,c1⟩:=(Z.o.below j.o).spot q;obtain⟨ad,ae⟩:=HS.o s (mO q);have q1:((k:Int)<(g.length:Int)):=by omega
   have R:=Hi q;have S:O (ts.length+2<=1048576):=Hi (by have:=r.o.len;rw[List.length_take] at this;omega);clear q;go_wp2_with fail;generalize hwR:wr.alloc _=wR;have l:SB wR wr.heap.size 34 #[.string s.x,.string s.y]:=by rw[<-hwR];exact SB.new wr _ _
   have p:Bl wr wR:=by rw[<-hwR];exact(Below.refl _ _).alloc lZ _
   have b:=Hi ((N.o.below j.o).below p).rebase;obtain⟨d,I⟩:=Ia (j.o.trans (p.mono j.o.size)) (H.o.below p);have f:=l.lt;obtain⟨z,A⟩:=Ia (l.cell 0) (l.cell 1);obtain⟨d0,d1,-⟩:=zc l;clear l p hwR c0 c1;go_region_held3 (fun v=>v.cell? ⟨wr.heap.size,0,none⟩=some (.string s.x)/\v.cell? ⟨wr.heap.size,1,none⟩=some (.string s.y)) ((first|(simp [*];done)|go_keep)) (first
    |
     (go_at_call_of 36 (Value.string s.x)
      apply cM;apply RBag.of (w0:=wR) (n:=n);(focus(first|exact b.o|exact b.o.drew));omega;omega;rintro e wn ⟨x,J,V,rfl,c⟩;have HX:=Hi J;clear b;have b:=Hi c;clear J c;obtain⟨d0,d1⟩:=Ja b.o.base f z.o A.o;have K:=Hi (I.o.below b.o.base)
      skip)
    |
     (go_at_call_of 36 (Value.string s.y)
      apply cM;apply RBag.of (w0:=wR) (n:=n);(focus(first|exact b.o|exact b.o.drew));omega;omega;rintro e wn ⟨y,J,W,rfl,c⟩;have HY:=Hi J;clear b;have b:=Hi c;clear J c;obtain⟨d0,d1⟩:=Ja b.o.base f z.o A.o;have K:=Hi (I.o.below b.o.base)
      skip)
    |(
     refine Qqu rfl (.tmp 12) (.tmp 19) rfl (B:=w.heap.size) (v:=u3) (ts:=ts) (s:=(V,x,4*n+1)) (t:=(W,y,4*n+1)) rfl rfl ?hG ?hV ?hC S.o ?hB ?_
     case hG=>(focus(repeat(first|exact K.o|apply PGrow.alloc|apply PGrow.drew)))
     case hV=>exact RVs.two (by first|exact b.o.alloc _|exact b.o.drew.alloc _|exact(b.o.alloc _).drew) (by simp) (by simp)
     case hC=>exact(by first|exact SB.new _ _ _|exact(SB.new _ _ _).drew)
     case hB=>exact(by have h1:=d.o.size;have h2:=b.o.base.size;simp;omega)
     intro v' u' L M C;obtain⟨X,Y⟩:=Ia L ((by(first|exact d.o.trans ((b.o.base.alloc b.o.base.size _).mono d.o.size)|exact d.o.trans ((b.o.base.drew.alloc b.o.base.drew.size _).mono d.o.size)|exact d.o.trans ((b.o.base.alloc b.o.base.size _).drew.mono d.o.size)):Bl w _).trans M);have d0:=Qjp C (by first|exact(b.o.alloc _).base|exact(b.o.drew.alloc _).base|exact((b.o.alloc _).drew).base) f z.o;have d1:=Qjp C (by first|exact(b.o.alloc _).base|exact(b.o.drew.alloc _).base|exact((b.o.alloc _).drew).base) f A.o;clear L M C
     skip)
    |fail)
   all_goals
    have HM:=Hi (r.o.snoc (t:=(V,x,4*n+1)) (u:=(W,y,4*n+1)) R.o HX.o HY.o rfl rfl);go_wp2;go_roundw
    case rel=>exact⟨k+1,_,by omega,by go_num,(by first|exact X.o|exact X.o.drew),HM.o,(by first|exact Y.o|exact Y.o.drew)⟩
    case measure=>simp[intOf];omega
  .
   obtain rfl:k=g.length:=by omega
   go_wp2;go_ret;refine⟨_,ts,rfl,H.o,?_,j.o⟩;have:=r.o;rw[List.take_length] at this;exact this
def qv(ts:List RT):Vec:=fun i=>(ts.map (·.2.1)).getD i 0
theorem qv_at{ts:List RT}{i:Nat}{t:RT}(h:ts[i]?=some t):qv ts i=t.2.1:=by simp[qv,List.getD,h]
theorem Qqw(a b:Vx)(ca cb K1 K2:Nat)(xs ys:List RT)(w:Vz)(hx:PRow w a xs)(hy:PRow w b ys)(hl:ys.length=xs.length)(af:xs.length<=20)(h1:∀t,t∈ xs->t.2.2<=K1)(h2:∀t,t∈ ys->t.2.2<=K2)(hK:21*(K1+K2+2)<274877906000):
 Calls prog 33 #[.slice a xs.length ca,.slice b xs.length cb] w fun e w'=>∃g:Nat,e=.returned (.pointer (some ⟨g,0,none⟩))/\RatVal w' g (dot xs.length (qv xs) (qv ys))/\Fits (dot xs.length (qv xs) (qv ys)) (xs.length*(K1+K2+2)+1)/\w.heap.size<=g/\Below w.heap.size w w':=by
 obtain⟨HX,HY,HL,H1,H2⟩:=Id hx hy hl h1 h2;clear hx hy hl h1 h2;obtain⟨g,P⟩:=nm w.heap.size;obtain⟨V,hV⟩:=nm (w.alloc (.cells #[.bool false,.slice none 0 0,.bool false,.slice none 0 0] 123));have Q:=Ua hV;have d:O (RatVal V g 0):=Hi (by rw[<-hV,<-P];exact Qa2 w);obtain⟨R,m⟩:=Ia hV P;clear hV P;go_enter func33,ntmps33;go_wp2_with fail;rw[R.o,m.o];go_loopw [10] (fun S wr=>∃k:Nat,k<=xs.length/\S=.int .i64 k/\RatVal wr g (dot k (qv xs) (qv ys))/\Fits (dot k (qv xs) (qv ys)) (k*(K1+K2+2)+1)/\Below w.heap.size w wr) (fun S _=>xs.length - (intOf S).toNat)
 case atStart=>exact⟨0,Nat.zero_le _,rfl,d.o,Fits.zero.mono (by omega),Q.o⟩
 case round=>
  obtain⟨k,hk,rfl,A,B,C⟩:=hrel;obtain⟨d,f,c⟩:=Ib A B C;clear A B C;by_cases T:k<xs.length
  .
   obtain⟨s,D⟩:∃s,xs[k]?=some s:=⟨xs[k],gE T⟩;obtain⟨t,E⟩:∃t,ys[k]?=some t:=⟨ys[k]'(by have:=HL.o;omega),gE _⟩;obtain⟨ab,ao,rfl,n,U⟩:=HX.o.at D;obtain⟨bb,bo,rfl,p,W⟩:=HY.o.at E;have h:=HX.o.vs s (mO D);have i:=HY.o.vs t (mO E);have r:=H1.o s (mO D);have x:=H2.o t (mO E);obtain⟨q,X⟩:=nm (dot k (qv xs) (qv ys));have F:O (dot (k+1) (qv xs) (qv ys)=q+s.2.1*t.2.1):=Hi (by
    show dot k (qv xs) (qv ys)+qv xs k*qv ys k=_
    rw[X,qv_at D,qv_at E])
   rw[X] at d f;obtain⟨N,j⟩:=nm (k*(K1+K2+2));have ag:N<=20*(K1+K2+2):=by rw[<-j];exact Nat.mul_le_mul_right _ (by omega)
   have Y:O ((k+1)*(K1+K2+2)=N+(K1+K2+2)):=Hi (by rw[Nat.succ_mul,j]);rw[j] at f;have y:O (Fits (s.2.1*t.2.1) (K1+K2+1)):=Hi (((h.2.1.mono r).mul (i.2.1.mono x) (by have:=h.2.2;omega)).mono (by omega));have Z:O (∀u,Below w.heap.size w u->Calls prog 34 #[.pointer (some ⟨s.1,0,none⟩),.pointer (some ⟨t.1,0,none⟩)] u (NewRat u (s.2.1*t.2.1))):=Hi (fun u hu=>Qkz s.1 t.1 K1 K2 s.2.1 t.2.1 u (h.1.below hu) (i.1.below hu) (h.2.1.mono r) (i.2.1.mono x) (by omega));obtain⟨G,H⟩:=Ia U W;have d0:=ce c.o n U;have d1:=ce c.o p W;have q1:((k:Int)<(xs.length:Int)):=by omega
   have aa:w.heap.size<=g:=by have:=m.o;omega
   clear D E U W h i r x X j;go_wp2_with fail;go_region_held3 (fun v=>v.cell? ⟨ab,ao+k,none⟩=some (.pointer (some ⟨s.1,0,none⟩))/\v.cell? ⟨bb,bo+k,none⟩=some (.pointer (some ⟨t.1,0,none⟩))) ((first|(simp [*];done)|go_keep)) (first
    |(
     go_at_call 34;apply cM;apply Z.o;(focus(first|exact c.o|exact c.o.drew));rintro e w5 ⟨⟨bq,rfl,_,I⟩,z⟩;obtain⟨J,l,ad⟩:=Ib I ((by first|exact d.o|exact d.o.below bR.drew:RatVal _ g q).below z) ((by first|exact c.o|exact c.o.drew:Bl w _).trans (z.mono (by first|exact c.o.size|exact c.o.drew.size)));clear c I z d0 d1;have c:=ad;have d0:=ce c.o n G.o;have d1:=ce c.o p H.o
     skip)
    |(
     go_at_call 73;apply cM;(first
      |exact Qgi g g bq (N+1) (K1+K2+1) q (s.2.1*t.2.1) _ l.o.room l.o J.o f.o y.o (by omega)
      |exact Qgi g g bq (N+1) (K1+K2+1) q (s.2.1*t.2.1) _ (l.o.below bR.drew).room (l.o.below bR.drew) (J.o.below bR.drew) f.o y.o (by omega))
     rintro e w6 K;have L:=Hi (RatOk.val K);obtain⟨rfl,M,_⟩:=K;have ae:=Hi ((by first|exact c.o|exact c.o.drew:Bl w _).trans (M.below aa (by first|exact c.o.size|exact c.o.drew.size)));clear c M d0 d1;have c:=ae;have d0:=ce c.o n G.o;have d1:=ce c.o p H.o
     skip)
    |fail)
   all_goals
    go_wp2;go_roundw
    case rel=>
     refine⟨k+1,by omega,by go_num,?_,?_,(by first|exact c.o|exact c.o.drew)⟩
     . rw[F.o]
       first|exact L.o|exact L.o.below bR.drew
     . rw[F.o,Y.o]
       exact(f.o.add y.o).mono (by omega)
    case measure=>simp[intOf];omega
  .
   obtain rfl:k=xs.length:=by omega
   go_wp2;go_ret;exact⟨g,rfl,d.o,f.o,by have:=m.o;omega,c.o⟩
structure PBlk (w:Vz) (g:Nat) (ts:List RT):Prop where
 blk:SB w g 63 (ts.map ptrV).toArray
 vs:RVs w ts
theorem PBlk.below{w a:Vz}{g:Nat}{ts:List RT}(h:PBlk w g ts)(b:Bl w a):PBlk a g ts:=⟨h.blk.below b h.blk.lt,h.vs.below b⟩
theorem PBlk.cell{w:Vz}{g i:Nat}{ts:List RT}{t:RT}(h:PBlk w g ts)(a:ts[i]?=some t):w.cell? ⟨g,i,none⟩=some (.pointer (some ⟨t.1,0,none⟩)):=by
 rw[h.blk.cell];simp[a,ptrV]
theorem PBlk.row{w:Vz}{g:Nat}{ts:List RT}(h:PBlk w g ts):PRow w (some ⟨g,0,none⟩) ts:=⟨⟨fun j u a=>⟨g,0,rfl,h.blk.lt,by rw[Nat.zero_add,h.blk.cell];simpa using a⟩⟩,h.vs⟩
theorem PBlk.set{w:Vz}{g i b k:Nat}{q:Rat}{ts:List RT}(h:PBlk w g ts)(d:RatVal w b q)(e:Fits q k)(hk:0<k):PBlk (w.setCell ⟨g,i,none⟩ (.pointer (some ⟨b,0,none⟩))) g (ts.set i (b,q,k)):=by
 have f:Only g w (w.setCell ⟨g,i,none⟩ (.pointer (some ⟨b,0,none⟩))):=(Only.refl g w).setCell _ _;have c:=Fp.of_only f h.blk (fun u j=>Qgl ts u (by simpa using j));refine⟨?_,fun t a=>?_⟩
 .
  have:=h.blk.set i (.pointer (some ⟨b,0,none⟩));rw[List.map_set]
  simpa [ptrV] using this
 .
  rcases List.mem_or_eq_of_mem_set a with a|rfl
  . exact(h.vs.fp c) t a
  . exact⟨d.fp c,e,hk⟩
theorem Qqf(n:Nat):madeCells (Value.cells (.pointer none)) n=(List.replicate n (Value.pointer none)).toArray:=by
 have e:Value.cells (.pointer none)=#[.pointer none]:=by rfl
 rw[e];apply Array.ext';rw[toList_madeCells_one]
theorem Qqg(n:Nat)(e:n<=1048576)(w:Vz):(Instr.makeSlice 38 (.int .i64 n) (.int .i64 n)).run prog w=.ok (.slice (some ⟨w.heap.size,0,.none⟩) n n) (w.alloc (.cells (List.replicate n (Value.pointer none)).toArray 63)):=by
 obtain⟨i,a,h⟩:=Option.map_eq_some_iff.1 Qkj;simp only[Prod.mk.injEq] at h;obtain⟨b,c,d⟩:=h;have:=run_make w 38 63 i _ underlying38 a b .i64 .i64 n n (by omega) (by omega) (by rw[d];omega) (by omega);rw[Int.toNat_natCast,c,Nat.mul_one,Qqf] at this;exact this
theorem Qqh{n k:Nat}{x z:Value}{l:Vv}(hk:k<n)(hl:l.length=k):(l++List.replicate (n - k) z).set k x=(l++ [x])++List.replicate (n - (k+1)) z:=by
 rw[show n - k=(n - (k+1))+1 by omega,List.replicate_succ,List.set_append_right _ _ (by omega),hl,Nat.sub_self,List.set_cons_zero];simp
structure Noughts (w:Vz) (g n k:Nat) (ts:List RT):Prop where
 blk:SB w g 63 (ts.map ptrV++List.replicate (n - k) (Value.pointer none)).toArray
 vs:RVs w ts
 len:ts.length=k
 zero:∀t,t∈ ts->t.2.1=0/\t.2.2=1
theorem Noughts.below{w a:Vz}{g n k:Nat}{ts:List RT}(h:Noughts w g n k ts)(b:Bl w a):Noughts a g n k ts:=⟨h.blk.below b h.blk.lt,h.vs.below b,h.len,h.zero⟩
theorem Noughts.step{w:Vz}{g n k b:Nat}{ts:List RT}(h:Noughts w g n k ts)(hk:k<n)(e:RatVal w b 0):Noughts (w.setCell ⟨g,k,none⟩ (.pointer (some ⟨b,0,none⟩))) g n (k+1) (ts++ [(b,0,1)]):=by
 have f:Only g w (w.setCell ⟨g,k,none⟩ (.pointer (some ⟨b,0,none⟩))):=(Only.refl g w).setCell _ _;have d:=Fp.of_only f h.blk (fun u c=>by
  simp only[List.toList_toArray,List.mem_append] at c;rcases c with c|c
  . exact Qgl ts u c
  . obtain⟨_,rfl⟩:=List.mem_replicate.1 c
    exact⟨_,rfl⟩)
 refine⟨?_,fun t a=>?_,by simp[h.len],fun t a=>?_⟩
 .
  have:=h.blk.set k (.pointer (some ⟨b,0,none⟩));rw[List.setIfInBounds_toArray,Qqh hk (by rw[List.length_map];exact h.len)] at this;rw[List.map_append];exact this
 .
  rcases List.mem_append.1 a with a|a
  . exact(h.vs.fp d) t a
  . obtain rfl:=List.mem_singleton.1 a
    exact⟨e.fp d,Fits.zero,Nat.one_pos⟩
 .
  rcases List.mem_append.1 a with a|a
  . exact h.zero t a
  . obtain rfl:=List.mem_singleton.1 a
    exact⟨rfl,rfl⟩
structure LVal (ls:List L3) (vs:List (Nat × Rat × Rat)):Prop where
 len:vs.length=ls.length
 at_:∀(i:Nat) (l:L3) (p:Nat × Rat × Rat),ls[i]?=some l->vs[i]?=some p->p.1=l.j.toNat/\QOf l.x.data.toList p.2.1/\QOf l.y.data.toList p.2.2/\l.x.size<=1048576/\l.y.size<=1048576
theorem LVal.ex(a:List L3)(g:∀l,l∈ a->l.x.size<=1048576/\l.y.size<=1048576):∃vs,LVal a vs:=by
 have h:∀i:Nat,∃p:Nat × Rat × Rat,∀l,a[i]?=some l->p.1=l.j.toNat/\QOf l.x.data.toList p.2.1/\QOf l.y.data.toList p.2.2/\l.x.size<=1048576/\l.y.size<=1048576:=fun i=>by
  rcases hi:a[i]? with _|l
  . exact⟨(0,0,0),fun b k=>by cases k⟩
  .
   obtain⟨x,m⟩:=QOf.ex l.x.data.toList;obtain⟨y,n⟩:=QOf.ex l.y.data.toList;have z:=g l (mO hi);exact⟨(l.j.toNat,x,y),fun b e=>by cases e;exact⟨rfl,m,n,z⟩⟩
 obtain⟨f,o⟩:=Classical.axiomOfChoice h;refine⟨(List.range a.length).map f,by simp,fun i l p hl d=>?_⟩;have c:=(gZ hl).1;rw[List.getElem?_map,List.getElem?_range c] at d;obtain rfl:=Option.some.inj d;exact o i l hl
theorem LVal.loadV{a:List L3}{vs:List (Nat × Rat × Rat)}(h:LVal a vs){n:Nat}(b:∀(i:Nat) (x:L3),a[i]?=some x->IsJ n x.j):∀(i:Nat) (l:L3) (p:Nat × Rat × Rat),a[i]?=some l->vs[i]?=some p->LoadV n l p:=fun i l p hl c=>by
 obtain⟨d,e,f,g,k⟩:=h.at_ i l p hl c;obtain⟨k1,k2⟩:=b i l hl;exact⟨by rw[d];omega,by omega,e,f,g,k⟩
end Go.Proofs.YtkkadnoecklepaaGreatDoor
