/- Lists of pointers to rafterbig's fractions. -/
import Derived.Test.YtfpcipgoedifaaaGreatDoorK36BalB
import Derived.Test.YtfpcipgoedifaaaGreatDoorK33Minors
namespace Go.Proofs.YtfpcipgoedifaaaGreatDoor
open Go.RowKit
set_option linter.unusedVariables false
set_option linter.unusedSimpArgs false
structure BarV (n:Nat) (js:List S2) (b:B6) (p:Nat × Nat × Rat × Rat):Prop where
 a:b.a=(p.1:Nat)
 b:b.b=(p.2.1:Nat)
 ne:p.1≠p.2.1
 ex:∃(s t:S2) (x1 y1 x2 y2:Rat),js[p.1]?=some s/\js[p.2.1]?=some t/\s.x.size<=n/\s.y.size<=n/\t.x.size<=n/\t.y.size<=n/\QOf s.x.data.toList x1/\QOf s.y.data.toList y1/\QOf t.x.data.toList x2/\QOf t.y.data.toList y2/\p.2.2.1=x2 - x1/\p.2.2.2=y2 - y1
theorem GM.rows{w u:World}{B G W K:Nat}{gs:List Nat}{M:Nat->Nat->Rat}(h:GM w u B G W K gs M)(hz:∀r c,W<=c->M r c=0):
 ∃rs:List MR,rs.length=gs.length/\QMat u (some ⟨G,0,none⟩) gs.length W rs/\Oks u W K rs/\(∀r,r∈ rs->∀t,t∈ r.ts->t.k<=K)/\rs.map MR.q=(List.range gs.length).map M:=by
 have hex:∀r:Nat,∃m:MR,∀g,gs[r]?=some g->m.a=some ⟨g,0,none⟩/\m.cap=W/\m.ts.length=W/\QBlk u g m.ts/\∀(c:Nat) (t:FE),m.ts[c]?=some t->t.q=M r c/\t.k<=K:=fun r=>by
  rcases hr:gs[r]? with _|g
  · exact⟨MR.none,fun g hg=>by cases hg⟩
  · obtain⟨us,h1,h2,h3⟩:=h.row r g hr
    exact⟨⟨some ⟨g,0,none⟩,W,us⟩,fun g' hg'=>by cases hg';exact⟨rfl,rfl,h2,h1,h3⟩⟩
 obtain⟨f,hf⟩:=Classical.axiomOfChoice hex;have hat:∀r,r<gs.length->∃g,gs[r]?=some g/\(f r).a=some ⟨g,0,none⟩/\(f r).cap=W/\(f r).ts.length=W/\QBlk u g (f r).ts/\∀(c:Nat) (t:FE),(f r).ts[c]?=some t->t.q=M r c/\t.k<=K:=fun r hr=>⟨gs[r],gE hr,hf r _ (gE hr)⟩
 have hmem:∀m,m∈ (List.range gs.length).map f->∃r,r<gs.length/\f r=m:=fun m hm=>by
  obtain⟨r,hr,rfl⟩:=List.mem_map.1 hm;exact⟨r,List.mem_range.1 hr,rfl⟩
 have hcells:(gs.map (slRow W)).toArray.toList=((List.range gs.length).map f).flatMap MR.cells:=by
  rw[Qei,List.map_map];apply List.ext_getElem?;intro i;simp only[List.getElem?_map,Function.comp];rcases Nat.lt_or_ge i gs.length with hi|hi
  ·
   obtain⟨g,h1,h2,h3,h4,_⟩:=hat i hi;rw[h1,List.getElem?_range hi];simp[slRow,MR.val,h2,h3,h4]
  · rw[List.getElem?_eq_none hi,List.getElem?_eq_none (by simpa using hi)]
    rfl
 have hrow:∀m,m∈ (List.range gs.length).map f->QRow u m.a m.cap m.ts/\m.ts.length=W/\∀t,t∈ m.ts->t.k<=K:=fun m hm=>by
  obtain⟨r,hr,rfl⟩:=hmem m hm;obtain⟨g,h1,h2,h3,h4,h5,h6⟩:=hat r hr;refine⟨?_,h4,fun t ht=>?_⟩
  · rw[h2,h3,<-h4]
    exact h5.row
  · obtain⟨i,hi,he⟩:=List.getElem_of_mem ht
    exact(h6 i t (by rw[<-he];exact gE hi)).2
 refine⟨(List.range gs.length).map f,by simp,⟨h.out.arow hcells (by simp),fun m hm=>⟨(hrow m hm).1,(hrow m hm).2.1⟩⟩,fun m hm=>⟨(hrow m hm).1,(hrow m hm).2.1,(hrow m hm).2.2⟩,fun m hm=>(hrow m hm).2.2,?_⟩;rw[List.map_map];apply List.map_congr_left;intro r hr;obtain⟨g,h1,h2,h3,h4,h5,h6⟩:=hat r (List.mem_range.1 hr);funext c
 show (f r).q c=M r c
 rcases Nat.lt_or_ge c W with hc|hc
 ·
  obtain⟨t,ht⟩:∃t,(f r).ts[c]?=some t:=⟨(f r).ts[c]'(by omega),gE (by omega)⟩;rw[MR.q_at ht];exact(h6 c t ht).1
 · rw[MR.q_beyond (by omega),hz r c hc]
def LoadsFault(nj en:Nat)(ls:List L3)(c at_:Int):Prop:=
 (20<ls.length/\c=2/\at_=(en:Nat))∨
 (ls.length<=20/\((∃(k:Nat) (l:L3),ls[k]?=some l/\(∀(i:Nat) (x:L3),i<k->ls[i]?=some x->IsJ nj x.j)/\¬IsJ nj l.j/\c=4/\at_=(en:Nat)+(k:Nat))∨
 ((∀(i:Nat) (x:L3),ls[i]?=some x->IsJ nj x.j)/\c=0/\at_=0)))
set_option maxRecDepth 100000 in
set_option maxHeartbeats 4000000 in
theorem Qlk(a1 a2 a3 al:Option Addr)(c1 c2 c3 cl nj nb nh:Nat)(ls:List L3)(w:World)(hl:ARow L3.cells w al cl ls)(n1:nj<=10)(n2:nb<=24)(n3:nh<=20)(hll:ls.length<=9223372036854775807):
 Calls Tryz.prog 23 #[.agg #[.slice a1 nj c1,.slice a2 nb c2,.slice a3 nh c3],.slice al ls.length cl] w fun e w'=>∃c at_,e=.returned (.agg #[.int .i64 c,.int .i64 at_])/\LoadsFault nj (nb+nh) ls c at_/\Below w.heap.size w w':=by
 have HL:=Hi hl;clear hl;obtain⟨B0,hB0⟩:=nm w.heap.size;obtain⟨V,hV⟩:=nm ((w.alloc (.cells #[.slice a1 nj c1,.slice a2 nb c2,.slice a3 nh c3] 26)).alloc (.cells #[.int .i64 0,.int .i64 0] 31));have HBV:Hid (Below w.heap.size w V):=Hi (by rw[<-hV];exact Below.new2 w _ _);have HS0:Hid (SB V B0 26 #[.slice a1 nj c1,.slice a2 nb c2,.slice a3 nh c3]):=Hi (by rw[<-hV,<-hB0];exact(SB.new w _ _).alloc _);have HS1:Hid (SB V (B0+1) 31 #[.int .i64 0,.int .i64 0]):=Hi (by rw[<-hV,<-hB0];exact SB.new2 w _ _ _ _);obtain⟨en,hen⟩:=nm (nb+nh);have ei:(nb:Int)+(nh:Int)=(en:Int):=by omega
 obtain⟨-,x1,x2,-⟩:=zc HS0.out;obtain⟨y0,y1,-⟩:=zc HS1.out;have g0:=HS1.out.free 0;have g1:=HS1.out.free 1;rw[<-hV,<-hB0] at x1 x2 y0 y1 g0 g1;have HVE:=Hi hV;have HB0:=Hi hB0;have HEN:=Hi hen;have hle:w.heap.size<=B0+1:=by omega
 have hen44:en<=44:=by omega
 clear hV hB0 hen;go_enter Tryz.func23,Tryz.ntmps23;by_cases h20:20<ls.length
 ·
  have q20:(20:Int)<(ls.length:Int):=by omega
  go_wp2;simp only[HVE.out,HB0.out,ei];refine bodyPost_ret (results_cell_row rfl _ _ (B0+1) 31 #[.int .i64 2,.int .i64 (en:Int)] (0,0) _ rfl (by rw[<-HB0.out];exact Qli w _ _ _) Tryz.underlying31 rfl Tryz.faultInfo) rfl ?_;exact⟨2,(en:Nat),rfl,.inl ⟨h20,rfl,by rw[HEN.out]⟩,(by have:=HB0.out;subst this;exact Below.new2 _ _ _)⟩
 ·
  have q20:¬((20:Int)<(ls.length:Int)):=by omega
  go_wp2_with fail;simp only[HVE.out,HB0.out,ei];clear x1 x2 y0 y1 g0 g1;go_loopw [21] (fun iv wr=>∃k:Nat,k<=ls.length/\iv=.int .i64 k/\(∀(i:Nat) (x:L3),i<k->ls[i]?=some x->IsJ nj x.j)/\Below V.heap.size V wr) (fun iv _=>ls.length - (intOf iv).toNat)
  case atStart=>exact⟨0,by omega,rfl,fun i x hi=>by omega,Below.refl _ _⟩
  case round=>
   obtain⟨k,hk,rfl,hall,hb⟩:=hrel;have HA:=Hi hall;have HB:=Hi hb;have HX:=Hi (HS0.out.below hb HS0.out.lt);have HE1:=Hi (HS1.out.below hb HS1.out.lt);clear hall hb;by_cases hlt:k<ls.length
   ·
    obtain⟨l,hl⟩:∃l,ls[k]?=some l:=⟨ls[k],gE hlt⟩;obtain⟨lb,lo,rfl,hlb,d0,d1,d2⟩:=(HL.out.below (HBV.out.trans (HB.out.mono HBV.out.size))).load hl;obtain⟨x0,-⟩:=zc HX.out;have q1:((k:Int)<(ls.length:Int)):=by omega
    have HLK:=Hi hl;have wE:IntKind.i64.wrap ((en:Int)+(k:Int))=(en:Int)+(k:Int):=Qa0 _ (by omega) (by omega);clear hl;by_cases hj:IsJ nj l.j
    ·
     have HJ:=Hi (fun u=>Qa5 a1 nj c1 l.j u hj);have HJJ:=Hi hj;clear hj;go_wp2_with fail;go_region_held3 (fun v=>v.cell? ⟨B0,0,none⟩=some (.slice a1 nj c1)/\v.cell? ⟨lb,lo+k*3,none⟩=some (.int .i64 l.j)) ((first|(simp [*];done)|go_keep)) (first
      |(
       go_at_call 47;apply cM;apply HJ.out
       rintro e v1 ⟨rfl,rfl⟩)
      |fail)
     go_wp2;go_roundw
     case rel=>
      refine⟨k+1,by omega,by go_num,fun i x hi hx=>?_,HB.out.drew⟩;rcases Nat.lt_or_ge i k with h|h
      · exact HA.out i x h hx
      ·
       obtain rfl:i=k:=by omega
       rw[<-Option.some.inj (HLK.out.symm.trans hx)];exact HJJ.out
     case measure=>simp[intOf];omega
    ·
     have HJ:=Hi (fun u=>Qed a1 nj c1 l.j u hj);have HJJ:=Hi hj;obtain⟨y0,y1,-⟩:=zc HE1.out;have g0:wr.frozen? ⟨B0+1,0,none⟩=false:=HE1.out.free 0;have g1:wr.frozen? ⟨B0+1,1,none⟩=false:=HE1.out.free 1;clear hj;go_wp2_with fail;go_region_held3 (fun v=>v.cell? ⟨B0,0,none⟩=some (.slice a1 nj c1)/\v.cell? ⟨lb,lo+k*3,none⟩=some (.int .i64 l.j)) ((first|(simp [*];done)|go_keep)) (first
      |(
       go_at_call 47;apply cM;apply HJ.out
       rintro e v1 ⟨rfl,rfl⟩)
      |fail)
     go_wp2;refine bodyPost_ret (results_cell_row rfl _ _ (B0+1) 31 #[.int .i64 (4),.int .i64 ((en:Int)+(k:Int))] (0,0) _ rfl ((HE1.out.set 0 _).set 1 _) Tryz.underlying31 rfl Tryz.faultInfo) rfl ?_;exact⟨4,_,rfl,.inr ⟨by omega,.inl ⟨k,l,HLK.out,HA.out,HJJ.out,rfl,by rw[HEN.out]⟩⟩,(((HBV.out.trans (HB.out.mono HBV.out.size)).setCell (p:=⟨B0+1,0,none⟩) hle _).setCell (p:=⟨B0+1,1,none⟩) hle _).drew⟩
   ·
    obtain rfl:k=ls.length:=by omega
    obtain⟨y0,y1,-⟩:=zc HE1.out;have g0:=HE1.out.free 0;have g1:=HE1.out.free 1;go_wp2;refine bodyPost_ret (results_cell_row rfl _ _ (B0+1) 31 #[.int .i64 (0),.int .i64 (0)] (0,0) _ rfl ((HE1.out.set 0 _).set 1 _) Tryz.underlying31 rfl Tryz.faultInfo) rfl ?_;exact⟨0,0,rfl,.inr ⟨by omega,.inr ⟨fun i x hx=>HA.out i x (gZ hx).1 hx,rfl,rfl⟩⟩,((HBV.out.trans (HB.out.mono HBV.out.size)).setCell (p:=⟨B0+1,0,none⟩) hle _).setCell (p:=⟨B0+1,1,none⟩) hle _⟩
def textD{H:Type}(s:ByteArray):DataW H:=.lit (.string s.data.toList)
section
variable {H:Type} {enc:TypeId × Value->H} {P:Program} {w:World} {base:Nat} {spare:Nat->Bool} {held:Bool} {fuel:Nat} {cs:List Value} {x:DataW H × List MemPlace} {tE tS tQ tI tI':TypeId} {f0 f1 f2 f3 f4 f5:Field}
theorem Qcu{α:Type}{c:α->List Value}{dat:α->DataW H}{sz:Nat}{t:TypeId}(dflt:α)(hsz:0<sz)(hc:∀e,(c e).length=sz)(ut:P.underlying t=some (.slice tE))(cE:P.cellsOf tE=sz)
 (each:∀(fuel:Nat) (cs:List Value) (x:DataW H × List MemPlace),DataW.trod enc P w base spare held fuel tE cs=some x->∃e,cs=c e/\x.1=dat e)
 (h:DataW.trod enc P w base spare held fuel t cs=some x):
 ∃(a:Option Addr) (cap:Nat) (es:List α),cs= [.slice a es.length cap]/\ARow c w a cap es/\(∀l r,x.1=.slice l r->l=es.map dat)/\((es= []/\x.1=.nil)∨∃l r,x.1=.slice l r):=by
 rcases Deep.open_slice ut h with ⟨rfl,rfl⟩|⟨a,len,cap,m,n,D,Pl,rfl,hb,hlc,hcm,hm,rfl,hD⟩
 · exact⟨none,0,[],rfl,⟨by simp,⟨fun j u hj=>by simp at hj⟩⟩,fun l r e=>by simp at e,.inl ⟨rfl,rfl⟩⟩
 have hlm:len<=m:=by rw[hm];split<;>omega
 have eachI:∀i,∃f:α,i<len->w.cells? base (a.add (i*sz)) sz=some (c f)/\D i=dat f:=by
  intro i;by_cases hi:i<len
  ·
   obtain⟨cs',h1,h2⟩:=hD i (by omega);obtain⟨f,rfl,hd⟩:=each _ _ _ h2;rw[cE] at h1;exact⟨f,fun _=>⟨h1,hd⟩⟩
  · exact⟨dflt,fun h=>absurd h hi⟩
 obtain⟨F,hF⟩:=Classical.axiomOfChoice eachI;refine⟨some a,cap,(List.range len).map F,by simp,⟨by simpa using hlc,⟨?_⟩⟩,?_,.inr ⟨_,_,rfl⟩⟩
 ·
  intro j u hj;have hjl:=(gZ hj).1;rw[Qcg hc] at hjl;simp only[List.length_map,List.length_range] at hjl;have hil:j / sz<len:=(Nat.div_lt_iff_lt_mul hsz).2 hjl;have hkl:j % sz<sz:=Nat.mod_lt _ hsz;obtain⟨u',hu'⟩:∃u',(c (F (j / sz)))[j % sz]?=some u':=⟨_,gE (by rw[hc];exact hkl)⟩;have h1:((List.range len).map F)[j / sz]?=some (F (j / sz)):=by simp[hil]
  have h2:=Qb2 hc _ _ _ _ _ h1 hu';rw[Nat.div_add_mod' j sz,hj] at h2;obtain rfl:=Option.some.inj h2;obtain⟨hcl,_⟩:=hF _ hil;obtain⟨_,_,hcell⟩:=World.cells?_some hcl;obtain⟨b,off,sp⟩:=a;have c0:=hcell (j % sz) (by omega);have z:=(World.cells?_some (hF 0 (Nat.lt_of_le_of_lt (Nat.zero_le _) hil)).1).2.2 0 hsz;have hsp:sp=none:=by
   cases sp with
   |none=>rfl
   |some v=>
    exfalso
    obtain⟨z0,hz0⟩:∃z0,(c (F 0))[0]?=some z0:=⟨_,gE (by rw[hc];exact hsz)⟩;rw[hz0] at z;simp only[Nat.zero_mul,Addr.add,if_true,World.cell?] at z
    split at z<;>simp at z
  subst hsp;have ea:∀j k,(Addr.add ⟨b,off,none⟩ j).add k=⟨b,off+j+k,none⟩:=by
   intro j k;unfold Addr.add;by_cases hj:j=0<;>by_cases hk:k=0<;>simp[hj,hk]
  rw[ea,hu',Nat.add_assoc,Nat.div_add_mod'] at c0;exact⟨b,off,rfl,World.block_lt_of_cell? _ _ c0,c0⟩
 ·
  intro l r e;have e1:(List.range len).map D=l:=by simpa using (DataW.slice.inj e).1
  rw[<-e1,List.map_map];refine List.map_congr_left fun i hi=>?_
  exact(hF i (by simpa using hi)).2
end
def spotD{H:Type}(s:S2):DataW H:=.agg [textD s.x,textD s.y]
def barD{H:Type}(b:B6):DataW H:=.agg [.lit (.int .i64 b.a),.lit (.int .i64 b.b),textD b.c,textD b.e,textD b.l,textD b.m]
def holdD{H:Type}(h:H3):DataW H:=.agg [.lit (.int .i64 h.j),.lit (.int .i64 h.w),textD h.q]
section
variable {H:Type} {enc:TypeId × Value->H} {P:Program} {w:World} {base:Nat} {spare:Nat->Bool} {held:Bool} {fuel:Nat} {cs:List Value} {x:DataW H × List MemPlace} {tE tS tQ tI tI':TypeId} {f0 f1 f2 f3 f4 f5:Field}
theorem Qse(uB:P.underlying tE=some (.struct #[f0,f1,f2,f3,f4,f5]))(uQ:P.underlying tQ=some .string)(uI:P.underlying tI=some (.int .i64))(cB:P.cellsOf tE=6)(cQ:P.cellsOf tQ=1)(cI:P.cellsOf tI=1)
 (t0:f0.type=tI) (t1:f1.type=tI) (t2:f2.type=tQ) (t3:f3.type=tQ) (t4:f4.type=tQ) (t5:f5.type=tQ) (o0:f0.offset=0) (o1:f1.offset=1) (o2:f2.offset=2) (o3:f3.offset=3) (o4:f4.offset=4) (o5:f5.offset=5)
 (h:DataW.trod enc P w base spare held fuel tE cs=some x):∃b:B6,cs=b.cells/\x.1=barD b:=by
 obtain⟨xs,n,rfl,rfl,hl,hxl,hf⟩:=DataW.trod_struct uB h;rw[cB] at hl;clear h;have h0:=hf 0 f0 rfl;have h1:=hf 1 f1 rfl;have h2:=hf 2 f2 rfl;have h3:=hf 3 f3 rfl;have h4:=hf 4 f4 rfl;have h5:=hf 5 f5 rfl;rw[t0,o0,cI] at h0;rw[t1,o1,cI] at h1;rw[t2,o2,cQ] at h2;rw[t3,o3,cQ] at h3;rw[t4,o4,cQ] at h4;rw[t5,o5,cQ] at h5;clear hf
 match cs,hl,xs,hxl with
 | [v0,v1,v2,v3,v4,v5],_,[y0,y1,y2,y3,y4,y5],_=>
   simp only[List.drop_zero,List.drop_succ_cons,List.take_succ_cons,List.take_zero,List.getElem?_cons_zero,List.getElem?_cons_succ] at h0 h1 h2 h3 h4 h5;obtain⟨a,e0,rfl,_⟩:=DataW.trod_int uI h0;obtain⟨b,e1,rfl,_⟩:=DataW.trod_int uI h1;obtain⟨c,e2,rfl,_⟩:=DataW.trod_string uQ h2;obtain⟨e,e3,rfl,_⟩:=DataW.trod_string uQ h3;obtain⟨l,e4,rfl,_⟩:=DataW.trod_string uQ h4;obtain⟨m,e5,rfl,_⟩:=DataW.trod_string uQ h5;obtain rfl:v0=_:=by simpa using e0
   obtain rfl:v1=_:=by simpa using e1
   obtain rfl:v2=_:=by simpa using e2
   obtain rfl:v3=_:=by simpa using e3
   obtain rfl:v4=_:=by simpa using e4
   obtain rfl:v5=_:=by simpa using e5
   exact⟨⟨a,b,c,e,l,m⟩,rfl,rfl⟩
theorem Qsf(uB:P.underlying tE=some (.struct #[f0,f1,f2]))(uQ:P.underlying tQ=some .string)(uI:P.underlying tI=some (.int .i64))(uI':P.underlying tI'=some (.int .i64))(cB:P.cellsOf tE=3)(cQ:P.cellsOf tQ=1)(cI:P.cellsOf tI=1)(cI':P.cellsOf tI'=1)
 (t0:f0.type=tI) (t1:f1.type=tI') (t2:f2.type=tQ) (o0:f0.offset=0) (o1:f1.offset=1) (o2:f2.offset=2)
 (h:DataW.trod enc P w base spare held fuel tE cs=some x):∃b:H3,cs=b.cells/\x.1=holdD b:=by
 obtain⟨xs,n,rfl,rfl,hl,hxl,hf⟩:=DataW.trod_struct uB h;rw[cB] at hl;clear h;have h0:=hf 0 f0 rfl;have h1:=hf 1 f1 rfl;have h2:=hf 2 f2 rfl;rw[t0,o0,cI] at h0;rw[t1,o1,cI'] at h1;rw[t2,o2,cQ] at h2;clear hf
 match cs,hl,xs,hxl with
 | [v0,v1,v2],_,[y0,y1,y2],_=>
   simp only[List.drop_zero,List.drop_succ_cons,List.take_succ_cons,List.take_zero,List.getElem?_cons_zero,List.getElem?_cons_succ] at h0 h1 h2;obtain⟨a,e0,rfl,_⟩:=DataW.trod_int uI h0;obtain⟨b,e1,rfl,_⟩:=DataW.trod_int uI' h1;obtain⟨c,e2,rfl,_⟩:=DataW.trod_string uQ h2;obtain rfl:v0=_:=by simpa using e0
   obtain rfl:v1=_:=by simpa using e1
   obtain rfl:v2=_:=by simpa using e2
   exact⟨⟨a,b,c⟩,rfl,rfl⟩
theorem Qsg(u:P.underlying tE=some (.struct #[f0,f1,f2]))(cB:P.cellsOf tE=3){t0 t1 t2:TypeId}(e0:f0.type=t0)(e1:f1.type=t1)(e2:f2.type=t2)(k0:P.cellsOf t0=1)(k1:P.cellsOf t1=1)(k2:P.cellsOf t2=1)(o0:f0.offset=0)(o1:f1.offset=1)(o2:f2.offset=2)
 (h:DataW.trod enc P w base spare held fuel tE cs=some x):∃n v0 v1 v2 y0 y1 y2,cs= [v0,v1,v2]/\x.1=.agg [y0.1,y1.1,y2.1]/\DataW.trod enc P w base spare held n t0 [v0]=some y0/\DataW.trod enc P w base spare held n t1 [v1]=some y1/\DataW.trod enc P w base spare held n t2 [v2]=some y2:=by
 obtain⟨xs,n,rfl,rfl,hl,hxl,hf⟩:=DataW.trod_struct u h;rw[cB] at hl;clear h;have h0:=hf 0 f0 rfl;have h1:=hf 1 f1 rfl;have h2:=hf 2 f2 rfl;rw[e0,o0,k0] at h0;rw[e1,o1,k1] at h1;rw[e2,o2,k2] at h2;clear hf
 match cs,hl,xs,hxl with
 | [v0,v1,v2],_,[y0,y1,y2],_=>
   simp only[List.drop_zero,List.drop_succ_cons,List.take_succ_cons,List.take_zero,List.getElem?_cons_zero,List.getElem?_cons_succ] at h0 h1 h2;exact⟨n,v0,v1,v2,y0,y1,y2,rfl,rfl,h0,h1,h2⟩
end
end Go.Proofs.YtfpcipgoedifaaaGreatDoor
namespace Go.Proofs.YtfpcipgoedifaaaGreatDoor
open Go.ChangeShapes Go.WideShapes Go.ChangeAt Go.RowKit
set_option linter.unusedVariables false
set_option linter.unusedSimpArgs false
theorem Qkq:Tryz.prog.cellsOf 47=6:=by kernel_rfl
theorem Qkr:Tryz.prog.cellsOf 45=3:=by kernel_rfl
theorem Qtg:Tryz.prog.cellsOf 22=1:=by kernel_rfl
theorem Qth:Tryz.prog.cellsOf 23=1:=by kernel_rfl
theorem Qti:Tryz.prog.cellsOf 24=1:=by kernel_rfl
theorem Qtj:Tryz.prog.cellsOf 26=3:=by kernel_rfl
theorem Qtk:Tryz.prog.readableRec 26=true:=by kernel_rfl
theorem Qtl:26<Tryz.prog.types.size:=by refine of_decide_eq_true ?_;kernel_rfl
section
variable {H:Type}
theorem Qcx{α:Type}(dat:α->DataW H)(hd:∀e,1<=Rows.uptoBulk (dat e))(es:List α):es.length<=Rows.uptoBulkAll (es.map dat):=by
 induction es with
 |nil=>simp
 |cons e l ih=>
  have:=hd e;simp only[List.map_cons,Rows.uptoBulkAll,List.length_cons];omega
theorem Qbs{α:Type}{dat:α->DataW H}{es:List α}{d:DataW H}{N:Nat}(hb:Rows.uptoBulk d<=N)(hl:∀l r,d=.slice l r->l=es.map dat)(hs:(es= []/\d=.nil)∨∃l r,d=.slice l r):Rows.uptoBulkAll (es.map dat)<=N:=by
 rcases hs with ⟨rfl,_⟩|⟨l,r,rfl⟩
 · simp[Rows.uptoBulkAll]
 · rw[<-hl l r rfl]
   exact Nat.le_trans (Qs9 l r) hb
theorem Qtm(s:ByteArray):s.size<=Rows.uptoBulk (textD (H:=H) s):=by
 simp[textD,Rows.uptoBulk]
theorem Qee(s:S2):1<=Rows.uptoBulk (spotD (H:=H) s)/\s.x.size+s.y.size<=Rows.uptoBulk (spotD (H:=H) s):=by
 simp[spotD,textD,Rows.uptoBulk,Rows.uptoBulkAll];omega
theorem Qks(b:B6):1<=Rows.uptoBulk (barD (H:=H) b)/\b.c.size+b.e.size+b.l.size+b.m.size<=Rows.uptoBulk (barD (H:=H) b):=by
 simp[barD,textD,Rows.uptoBulk,Rows.uptoBulkAll];omega
theorem Qkt(h:H3):1<=Rows.uptoBulk (holdD (H:=H) h)/\h.q.size<=Rows.uptoBulk (holdD (H:=H) h):=by
 simp[holdD,textD,Rows.uptoBulk,Rows.uptoBulkAll];omega
theorem Qf7{α:Type}(dat:α->DataW H){es:List α}{e:α}(he:e∈ es):Rows.uptoBulk (dat e)<=Rows.uptoBulkAll (es.map dat):=Qf6 (List.mem_map.2 ⟨e,he,rfl⟩)
variable {enc:TypeId × Value->H} {W:World}
theorem Qtn{cs:Array Value}{d:DataW H}{ps:List MemPlace}(hb:Rows.uptoBulk d<=1048576)
 (h:DataW.Trod enc Tryz.prog W 0 (fun _=>true) true 26 (.agg cs) d ps):
 ∃(a1 a2 a3:Option Addr) (c1 c2 c3:Nat) (js:List S2) (bs:List B6) (hs:List H3),cs=#[.slice a1 js.length c1,.slice a2 bs.length c2,.slice a3 hs.length c3]/\FrRow W a1 a2 a3 c1 c2 c3 js bs hs/\FrSized js bs hs/\js.length<=1048576/\bs.length<=1048576/\hs.length<=1048576/\Rows.uptoBulkAll (js.map (spotD (H:=H)))+Rows.uptoBulkAll (bs.map (barD (H:=H)))<=Rows.uptoBulk d:=by
 obtain⟨fuel,h⟩:=h;obtain⟨n,v0,v1,v2,y0,y1,y2,hcs,hx,h0,h1,h2⟩:=Qsg Tryz.underlying26 Qtj rfl rfl rfl Qtg Qth Qti rfl rfl rfl h;have e0:(Value.agg cs).cells.toList=cs.toList:=by rfl
 rw[e0] at hcs;clear h e0;obtain⟨a1,c1,js,e1,r1,l1,s1⟩:=Qcu (c:=S2.cells) (dat:=spotD) (sz:=2) ⟨⟨#[]⟩,⟨#[]⟩⟩ (by decide) (fun _=>rfl) Tryz.underlying22 Qea (fun fuel cs x hx=>by
  obtain⟨s,t,e,hd,_⟩:=Qj5 Tryz.underlying42 Tryz.underlying40 Qea Qcv rfl rfl rfl rfl hx
  exact⟨⟨s,t⟩,e,hd⟩) h0
 obtain⟨a2,c2,bs,e2,r2,l2,s2⟩:=Qcu (c:=B6.cells) (dat:=barD) (sz:=6) ⟨0,0,⟨#[]⟩,⟨#[]⟩,⟨#[]⟩,⟨#[]⟩⟩ (by decide) (fun _=>rfl) Tryz.underlying23 Qkq (fun fuel cs x hx=>Qse Tryz.underlying47 Tryz.underlying40 Tryz.underlying3 Qkq Qcv cellsInt rfl rfl rfl rfl rfl rfl rfl rfl rfl rfl rfl rfl hx) h1;obtain⟨a3,c3,hs,e3,r3,l3,s3⟩:=Qcu (c:=H3.cells) (dat:=holdD) (sz:=3) ⟨0,0,⟨#[]⟩⟩ (by decide) (fun _=>rfl) Tryz.underlying24 Qkr (fun fuel cs x hx=>Qsf Tryz.underlying45 Tryz.underlying40 Tryz.underlying3 Tryz.underlying3 Qkr Qcv cellsInt cellsInt rfl rfl rfl rfl rfl rfl hx) h2;obtain rfl:v0=_:=by simpa using e1
 obtain rfl:v1=_:=by simpa using e2
 obtain rfl:v2=_:=by simpa using e3
 have hd:d=.agg [y0.1,y1.1,y2.1]:=hx;subst hd;have b0:Rows.uptoBulk y0.1<=1048576:=Nat.le_trans (by simp only[Rows.uptoBulk,Rows.uptoBulkAll];omega) hb;have b1:Rows.uptoBulk y1.1<=1048576:=Nat.le_trans (by simp only[Rows.uptoBulk,Rows.uptoBulkAll];omega) hb;have b2:Rows.uptoBulk y2.1<=1048576:=Nat.le_trans (by simp only[Rows.uptoBulk,Rows.uptoBulkAll];omega) hb;have k0:=Qbs b0 l1 s1;have k1:=Qbs b1 l2 s2;have k2:=Qbs b2 l3 s3;have n0:=Qcx (H:=H) spotD (fun e=>(Qee e).1) js;have n1:=Qcx (H:=H) barD (fun e=>(Qks e).1) bs;have n2:=Qcx (H:=H) holdD (fun e=>(Qkt e).1) hs;refine⟨a1,a2,a3,c1,c2,c3,js,bs,hs,by rw[<-Array.toArray_toList (xs:=cs),hcs],⟨r1,r2,r3⟩,⟨fun p hp=>?_,fun p hp=>?_,fun p hp=>?_⟩,by omega,by omega,by omega,by
  have g1:=Qbs lZ l1 s1;have g2:=Qbs lZ l2 s2;simp only[Rows.uptoBulk,Rows.uptoBulkAll] at g1 g2 ⊢
  omega⟩
 ·
  have g1:=Qf7 (H:=H) spotD hp;have g2:=(Qee (H:=H) p).2;omega
 ·
  have g1:=Qf7 (H:=H) barD hp;have g2:=(Qks (H:=H) p).2;omega
 ·
  have g1:=Qf7 (H:=H) holdD hp;have g2:=(Qkt (H:=H) p).2;omega
theorem Qto{cs:Array Value}{d:DataW H}{ps:List MemPlace}(hb:Rows.uptoBulk d<=1048576)
 (h:DataW.Trod enc Tryz.prog W 0 (fun _=>true) true 26 (.agg cs) d ps):
 ∃(a1 a2 a3:Option Addr) (c1 c2 c3:Nat) (js:List S2) (bs:List B6) (hs:List H3),cs=#[.slice a1 js.length c1,.slice a2 bs.length c2,.slice a3 hs.length c3]/\FrRow W a1 a2 a3 c1 c2 c3 js bs hs/\FrSized js bs hs/\js.length<=1048576/\bs.length<=1048576/\hs.length<=1048576/\Rows.uptoBulkAll (js.map (spotD (H:=H)))<=Rows.uptoBulk d:=by
 obtain⟨a1,a2,a3,c1,c2,c3,js,bs,hs,e,h1,h2,n1,n2,n3,h3⟩:=Qtn hb h;exact⟨a1,a2,a3,c1,c2,c3,js,bs,hs,e,h1,h2,n1,n2,n3,by omega⟩
end
end Go.Proofs.YtfpcipgoedifaaaGreatDoor
namespace Go.Proofs.YtfpcipgoedifaaaGreatDoor
open Go.RowKit
set_option linter.unusedVariables false
set_option linter.unusedSimpArgs false
theorem Qk1{w w':World}{B:Nat}{v:Value}(h:w.grownBy w' v.ownBlock)(hv:∀g,v.ownBlock=some g->B<=g)(hB:B<=w.heap.size):Below B w w':=
 ⟨h.os,h.tape,h.output,h.size,fun b hb=>h.block b (by omega) (fun e=>by have:=hv b e.symm;omega)⟩
def S2.none:S2:=⟨⟨#[]⟩,⟨#[]⟩⟩
theorem Quu(n:Nat):madeCells (Value.cells (.agg #[.string ⟨#[]⟩,.string ⟨#[]⟩])) (n*2)=((List.replicate n S2.none).flatMap S2.cells).toArray:=by
 apply Array.ext';apply List.ext_getElem?;intro i;by_cases hi:i<n*2
 ·
  have h1:(List.replicate n S2.none)[i / 2]?=some S2.none:=by rw[List.getElem?_replicate,if_pos (by omega)]
  have h3:i % 2=0∨i % 2=1:=by omega
  have e0:Value.cells (.agg #[.string ⟨#[]⟩,.string ⟨#[]⟩])=#[.string ⟨#[]⟩,.string ⟨#[]⟩]:=by rfl
  have h4:i / 2*2+i % 2=i:=by omega
  have hm:(madeCells (Value.cells (.agg #[.string ⟨#[]⟩,.string ⟨#[]⟩])) (n*2)).toList[i]?=some ((#[Value.string ⟨#[]⟩,.string ⟨#[]⟩]:Array Value)[i % 2]!):=by
   rw[e0];simp[madeCells,hi]
  rw[hm];have hf:∀u,(S2.cells S2.none)[i % 2]?=some u->((List.replicate n S2.none).flatMap S2.cells)[i]?=some u:=fun u hu=>by
   have:=Qb2 (sz:=2) (fun _=>rfl) _ _ _ _ _ h1 hu;rw[h4] at this;exact this
  simp only[List.toList_toArray];rcases h3 with h3|h3
  all_goals
   rw[h3] at hf ⊢;exact(hf _ rfl).symm
 ·
  have h1:((List.replicate n S2.none).flatMap S2.cells).length=n*2:=by rw[Qcg (sz:=2) (fun _=>rfl)];simp
  have h2:=size_madeCells (Value.cells (.agg #[.string ⟨#[]⟩,.string ⟨#[]⟩])) (n*2);rw[List.getElem?_eq_none (by rw[Array.length_toList,h2];omega),List.getElem?_eq_none (by simp only[List.toList_toArray];rw[h1];omega)]
theorem Quv:(Tryz.prog.info? 42).map (fun i=>(i.zero,i.size,i.bytes))=some (some (.agg #[.string ⟨#[]⟩,.string ⟨#[]⟩]),2,32):=by kernel_rfl
theorem Quw(n:Nat)(hn:n<=1048576)(w:World):(Instr.makeSlice 22 (.int .i64 n) (.int .i64 n)).run Tryz.prog w=.ok (.slice (some ⟨w.heap.size,0,.none⟩) n n) (w.alloc (.cells ((List.replicate n S2.none).flatMap S2.cells).toArray 42)):=by
 obtain⟨i,hi,h⟩:=Option.map_eq_some_iff.1 Quv;simp only[Prod.mk.injEq] at h;obtain⟨hz,hs,hb⟩:=h;have:=run_make w 22 42 i _ Tryz.underlying22 hi hz .i64 .i64 n n (by omega) (by omega) (by rw[hb];omega) (by omega);rw[Int.toNat_natCast,hs,Quu] at this;exact this
theorem Qk7:∀(ss:List S2) (k:Nat) (e:S2),k<ss.length->(ss.set k e).flatMap S2.cells=((ss.flatMap S2.cells).set (k*2) (.string e.x)).set (k*2+1) (.string e.y)
 | [],k,e,h=>by simp at h
 |t :: l,0,e,_=>by simp[S2.cells]
 |t :: l,k+1,e,h=>by
  have ih:=Qk7 l k e (by simpa using h);rw[List.set_cons_succ,List.flatMap_cons,ih,List.flatMap_cons];simp only[S2.cells,List.cons_append,List.nil_append];rw[show (k+1)*2=k*2+1+1 by omega];simp only[List.set_cons_succ,Nat.add_assoc]
end Go.Proofs.YtfpcipgoedifaaaGreatDoor
namespace Go.Proofs.YtfpcipgoedifaaaGreatDoor
set_option linter.unusedVariables false
set_option linter.unusedSimpArgs false
theorem Qn3(p:Rat):p*(p.den:Rat)=(p.num:Rat):=by
 have hd:(p.den:Rat)≠0:=by
  intro h;exact p.den_nz (Rat.natCast_inj.1 (by rw[h];rfl))
 have:p=(p.num:Rat) / (p.den:Rat):=by rw[<-Rat.mkRat_eq_div,Rat.mkRat_self]
 rw[Rat.div_def] at this;have e:p*(p.den:Rat)=(p.num:Rat)*(p.den:Rat)⁻¹*(p.den:Rat):=by rw[<-this]
 rw[e,Rat.mul_assoc,Rat.inv_mul_cancel _ hd,Rat.mul_one]
def denP:List Rat->Nat
 | []=>1
 |q :: l=>q.den*denP l
theorem Qhp:∀l:List Rat,0<denP l
 | []=>by decide
 |q :: l=>Nat.mul_pos q.den_pos (Qhp l)
theorem Qe1:∀(l:List (Rat × Nat)),(∀p,p∈ l->Fits p.1 p.2)->denP (l.map (·.1))<=2 ^ (l.map (·.2)).sum
 | [],_=>by decide
 |p :: l,h=>by
  rw[List.map_cons,List.map_cons,denP,List.sum_cons,Nat.pow_add];exact Nat.mul_le_mul (Nat.le_of_lt (h p (by simp)).2) (Qe1 l fun q hq=>h q (by simp[hq]))
def Wh(P b:Nat)(q:Rat):Prop:=∃z:Int,q*(P:Rat)=(z:Rat)/\z.natAbs<=2 ^ b
theorem Wh.mono{P b c:Nat}{q:Rat}(h:Wh P b q)(hbc:b<=c):Wh P c q:=by
 obtain⟨z,e,hz⟩:=h;exact⟨z,e,Nat.le_trans hz (Nat.pow_le_pow_right (by decide) hbc)⟩
theorem Wh.zero(P b:Nat):Wh P b 0:=⟨0,by rw[Rat.zero_mul];rfl,by simp⟩
theorem Wh.sub{P b:Nat}{p q:Rat}(h:Wh P b p)(k:Wh P b q):Wh P (b+1) (p - q):=by
 obtain⟨y,e,hy⟩:=h;obtain⟨z,f,hz⟩:=k;refine⟨y - z,?_,?_⟩
 · rw[Rat.intCast_sub,<-e,<-f]
   grind
 · rw[Nat.pow_succ]
   omega
theorem Wh.of_mem:∀{l:List Rat} {q:Rat} {k m:Nat},q∈ l->Fits q k->denP l<=2 ^ m->Wh (denP l) (k+m) q
 |p :: l,q,k,m,h,hf,hm=>by
  have key:∀(t:List Rat) (q:Rat),q∈ t->∃d:Nat,denP t=q.den*d/\d<=denP t:=fun t=>by
   induction t with
   |nil=>intro q hq;cases hq
   |cons p t ih=>
    intro q hq;rcases List.mem_cons.1 hq with rfl|hq
    · exact⟨denP t,rfl,Nat.le_mul_of_pos_left _ q.den_pos⟩
    ·
     obtain⟨d,e,hd⟩:=ih q hq;refine⟨p.den*d,?_,?_⟩
     · rw[denP,e,Nat.mul_left_comm]
     · rw[denP];exact Nat.mul_le_mul_left _ hd
  obtain⟨d,e,hd⟩:=key _ q h;refine⟨q.num*(d:Int),?_,?_⟩
  · rw[e,Rat.natCast_mul,<-Rat.mul_assoc,Qn3,Rat.intCast_mul,Rat.intCast_natCast]
  · rw[Int.natAbs_mul,Int.natAbs_natCast,Nat.pow_add]
    exact Nat.mul_le_mul (Nat.le_of_lt hf.1) (Nat.le_trans hd hm)
theorem Qhq{a b:Nat}(ha:a=2 ^ b):(20+1)*(a*(2*((20+1)*a)) ^ 20)<=2 ^ (5+(b+(6+b)*20)):=by
 have h0:2 ^ 6=64:=by decide
 have h1:2*((20+1)*a)<=2 ^ (6+b):=by rw[Nat.pow_add,ha];omega
 have h2:(2*((20+1)*a)) ^ 20<=(2 ^ (6+b)) ^ 20:=Nat.pow_le_pow_left h1 20;rw[<-Nat.pow_mul] at h2;rw[Nat.pow_add 2 5,Nat.pow_add 2 b,<-ha];exact Nat.mul_le_mul (by decide) (Nat.mul_le_mul_left _ h2)
abbrev kE(b:Nat):Nat:=21*b+126
abbrev kC(b:Nat):Nat:=22*b+126
abbrev kW(b:Nat):Nat:=41*kC b+20
theorem Qn4{b W P:Nat}{M:List Vec}(hP:0<P)(hPb:P<=2 ^ b)(hM:∀r,r∈ M->∀j,Wh P b (r j))(hz:∀r,r∈ M->∀i,W<=i->r i=0)(hl:M.length<=20∨W<=20):
 Going (kE b) (MJ W 20 (kC b) M)/\MJ W 20 (kC b) M 0 M [] []/\∀L S hs,MJ W 20 (kC b) M W L S hs->(Ech 0 W S hs/\∀x,Null W M x↔Null W S x)/\clnFits (kW b) S hs/\∀v,v∈ cln S hs->∀i,Fits (v i) (kC b):=by
 have hD:∀j:Nat,0<(fun _=>P) j/\(fun _=>P) j<=2 ^ b:=fun _=>⟨hP,hPb⟩
 have h1:=Qhq (a:=2 ^ b) (b:=b) rfl;have ha:0<2 ^ b:=Nat.pow_pos (by decide);have hK:(20+1)*(2 ^ b*(2*((20+1)*2 ^ b)) ^ 20)<2 ^ kE b:=Nat.lt_of_le_of_lt h1 (Nat.pow_lt_pow_right (by decide) (by simp only[kE];omega));have hK2:(20+1)*(2 ^ b*(2*((20+1)*2 ^ b)) ^ 20)*2 ^ b<2 ^ kC b:=by
  refine Nat.lt_of_le_of_lt (Nat.mul_le_mul_right _ h1) ?_;rw[<-Nat.pow_add];exact Nat.pow_lt_pow_right (by decide) (by simp only[kC];omega)
 refine⟨MJ.going (D:=fun _=>P) ha hD hM hK (by simp only[kE];omega) hK2 (by simp only[kC];omega),MJ.start W 20 _ M hz hl,fun L S hs h=>⟨h.1.done,?_⟩⟩;exact MJ.clean (D:=fun _=>P) ha hD hM hK2 (by simp only[kC];omega) (by simp only[kW,kC];omega) h
theorem Going.mono{K K':Nat}{I:Nat->List Vec->List Vec->List Nat->Prop}(h:Going K I)(hK:K<=K'):Going K' I:=⟨fun hi r hr i=>(h.fit hi r hr i).mono hK,h.skip,h.step⟩
open Go.RowKit
theorem FrameFault.few{js:List S2}{bs:List B6}{hs:List H3}{x:Int}(h:FrameFault js bs hs 0 x):¬Many js.length bs.length hs.length/\(∀(i:Nat) (b:B6),bs[i]?=some b->BarCode js b 0)/\(∀i y,hs[i]?=some y->holdAt js.length hs i y=0)/\x=0:=by
 rcases h with ⟨_,h,_⟩|⟨_,k,b,_,_,_,h,_⟩|⟨h1,h2,h⟩
 · cases h
 · exact absurd rfl h
 ·
  rcases h with ⟨_,_,_,_,_,h,_⟩|⟨h3,_,h4⟩
  · exact absurd rfl h
  · exact⟨h1,h2,h3,h4⟩
theorem Qog{js:List S2}{bs:List B6}{hs:List H3}(hz:FrSized js bs hs){b:B6}(h:BarCode js b 0):∃p:Nat × Nat × Rat × Rat,BarV 1048576 js b p/\p.1<js.length/\p.2.1<js.length/\¬(p.2.2.1=0/\p.2.2.2=0):=by
 rcases h with ⟨_,h⟩|⟨h1,h2,s,t,hs,ht,px,py,qx,qy,vc,vl,vm,q1,q2,q3,q4,_,_,_,hc⟩
 · cases h
 have hne:¬(px=qx/\py=qy):=fun e=>by rw[if_pos e] at hc;cases hc
 have z1:=hz.j s (mO hs);have z2:=hz.j t (mO ht);have g1:=h1.1;have g2:=h2.1;have g3:=h1.2;have g4:=h2.2;refine⟨(b.a.toNat,b.b.toNat,qx - px,qy - py),⟨by simp only;omega,by simp only;omega,fun e=>?_,s,t,px,py,qx,qy,hs,ht,z1.1,z1.2,z2.1,z2.2,q1,q2,q3,q4,rfl,rfl⟩,by simp only;omega,by simp only;omega,fun ⟨e1,e2⟩=>hne ⟨?_,?_⟩⟩
 ·
  simp only at e;rw[e,ht] at hs;cases hs;exact hne ⟨q1.inj q3,q2.inj q4⟩
 · simp only at e1
   grind
 · simp only at e2
   grind
abbrev RT:=Nat × Rat × Nat
def ptrV(t:RT):Value:=.pointer (some ⟨t.1,0,none⟩)
def IsPt(u:Value):Prop:=∃p,u=Value.pointer p
theorem Qru(ts:List RT):∀u,u∈ ts.map ptrV->IsPt u:=fun u hu=>by
 obtain⟨t,_,rfl⟩:=List.mem_map.1 hu;exact⟨_,rfl⟩
theorem Qrv(ts:List RT):∀u,u∈ ts.map ptrV->u.oneCell'=true:=fun u hu=>by
 obtain⟨t,_,rfl⟩:=List.mem_map.1 hu;rfl
structure Fp (w w':World):Prop where
 size:w.heap.size<=w'.heap.size
 keep:∀b i u,w.cell? ⟨b,i,none⟩=some u->¬IsPt u->w'.heap[b]?=w.heap[b]?
theorem Fp.grown{w w':World}{B n:Nat}{e:TypeId}{v:Value}{xs:List Value}(hg:Grow w B e 1 IsPt v n xs)(h:w.grownBy w' v.ownBlock):Fp w w':=by
 refine⟨h.size,fun b i u hu hk=>h.block b (World.block_lt_of_cell? _ _ hu) (fun e=>?_)⟩;obtain⟨C,hC,hK⟩:=hg.sb e.symm;rw[hC.cell] at hu;exact hk (hK u (mO (by rw[Array.getElem?_toList];exact hu)))
theorem Fp.cell{w w':World}(h:Fp w w'){b i:Nat}{u:Value}(hu:w.cell? ⟨b,i,none⟩=some u)(hk:¬IsPt u)(j:Nat):w'.cell? ⟨b,j,none⟩=w.cell? ⟨b,j,none⟩:=World.cell?_of_block (w:=w) (h.keep b i u hu hk)
theorem Qrw(x:Bool):¬IsPt (.bool x):=fun ⟨p,e⟩=>by cases e
theorem Qrx(k:IntKind)(n:Int):¬IsPt (.int k n):=fun ⟨p,e⟩=>by cases e
theorem Row.fp{k:IntKind}{w w':World}{a:Option Addr}{cap:Nat}{l:List Nat}(h:Row k w a cap l)(ho:Fp w w'):Row k w' a cap l:=by
 refine⟨h.fit,?_,fun i hi=>?_⟩
 ·
  rcases h.shape with h1|⟨b',off,rfl,h2⟩
  · exact .inl h1
  · exact .inr ⟨b',off,rfl,by have:=ho.size;omega⟩
 · obtain⟨b',off,h1,h2,h3⟩:=h.cell i hi
   exact⟨b',off,h1,by have:=ho.size;omega,(ho.cell h3 (Qrx _ _) _).trans h3⟩
theorem SB.fp{w w':World}{b:Nat}{t:TypeId}{C:Array Value}{u:Value}{i:Nat}(h:SB w b t C)(ho:Fp w w')(hi:C[i]?=some u)(hu:¬IsPt u):SB w' b t C:=by
 have e:=ho.keep b i u (by rw[h.cell];exact hi) hu;unfold SB at h ⊢;rw[e];exact h
theorem RatVal.fp{w w':World}{b:Nat}{q:Rat}(h:RatVal w b q)(ho:Fp w w'):RatVal w' b q:=by
 obtain⟨D,a1,c1,l1,a2,c2,l2,h1,h2⟩:=h;exact⟨D,a1,c1,l1,a2,c2,l2,⟨h1.sb.fp ho (i:=0) rfl (Qrw _),⟨h1.num.row.fp ho,h1.num.num,h1.num.short⟩,⟨h1.den.row.fp ho,h1.den.num,h1.den.short⟩⟩,h2⟩
def RVs(w:World)(ts:List RT):Prop:=∀t,t∈ ts->RatVal w t.1 t.2.1/\Fits t.2.1 t.2.2/\0<t.2.2
theorem RVs.below{w w':World}{ts:List RT}(h:RVs w ts)(hb:Below w.heap.size w w'):RVs w' ts:=fun t ht=>⟨(h t ht).1.below hb,(h t ht).2⟩
theorem RVs.fp{w w':World}{ts:List RT}(h:RVs w ts)(ho:Fp w w'):RVs w' ts:=fun t ht=>⟨(h t ht).1.fp ho,(h t ht).2⟩
structure PRow (w:World) (a:Option Addr) (ts:List RT):Prop where
 row:CRow w a (ts.map ptrV)
 vs:RVs w ts
theorem PRow.below{w w':World}{a:Option Addr}{ts:List RT}(h:PRow w a ts)(hb:Below w.heap.size w w'):PRow w' a ts:=⟨h.row.below hb,h.vs.below hb⟩
theorem PRow.at{w:World}{a:Option Addr}{ts:List RT}(h:PRow w a ts){i:Nat}{t:RT}(hi:ts[i]?=some t):∃b off,a=some ⟨b,off,none⟩/\b<w.heap.size/\w.cell? ⟨b,off+i,none⟩=some (.pointer (some ⟨t.1,0,none⟩)):=h.row.cell i (ptrV t) (by rw[List.getElem?_map,hi];rfl)
theorem Qry:(Tryz.prog.info? 35).map (fun i=>(i.zero,i.size,i.bytes))=some (some (.pointer none),1,8):=by kernel_rfl
structure PGrow (w:World) (B:Nat) (v:Value) (ts:List RT):Prop where
 list:Grow w B 35 1 IsPt v ts.length (ts.map ptrV)
 vs:RVs w ts
theorem PGrow.below{w w':World}{B:Nat}{v:Value}{ts:List RT}(h:PGrow w B v ts)(hb:Below w.heap.size w w'):PGrow w' B v ts:=⟨h.list.below hb,h.vs.below hb⟩
theorem PGrow.nil(w:World)(B:Nat):PGrow w B (.slice none 0 0) []:=⟨Grow.nil _ _ _ _ _,fun t ht=>by cases ht⟩
theorem PGrow.row{w:World}{B:Nat}{v:Value}{ts:List RT}(h:PGrow w B v ts):∃a cap,v=.slice a ts.length cap/\PRow w a ts:=by
 obtain⟨a,cap,e,_,hr,_⟩:=h.list.slice;exact⟨a,cap,e,hr,h.vs⟩
theorem PGrow.appT{w:World}{B nb c m:Nat}{v:Value}{ts us:List RT}{t:TypeId}(h:PGrow w B v ts)(ht:Tryz.prog.underlying t=some (.slice 35))(hu:RVs w us)(hm:us.length=m)(hc:∀j u,(us.map ptrV)[j]?=some u->w.cell? ((⟨nb,0,none⟩:Addr).add j)=some u)(hn:ts.length+m<=1048576)(hB:B<=w.heap.size)(ty:TypeId):
 ∃v' w',appR Tryz.prog t ty v (.slice (some ⟨nb,0,none⟩) m c) w=.ok v' w'/\PGrow w' B v' (ts++us)/\Below B w w'/\Fp w w'/\w.grownBy w' v.ownBlock/\(v'.ownBlock=v.ownBlock∨v'.ownBlock=some w.heap.size):=by
 subst hm;obtain⟨i,hi,hz⟩:=Option.map_eq_some_iff.1 Qry;injection hz with z1 z2
 injection z2 with z2 z3
 obtain⟨v',w',h1,h2,h3,h4⟩:=h.list.app (P:=Tryz.prog) (t:=t) (ty:=ty) ht hi z1 z2 z3 rfl (by decide) (fun u hu=>⟨none,by simpa [Value.cells] using hu⟩) ⟨nb,0,none⟩ us.length c (us.map ptrV) (by simp) hc (Qrv us) (Qru us) hn (by decide) hB;have hf:=Fp.grown h.list h3;refine⟨v',w',h1,⟨?_,fun t ht=>?_⟩,Qk1 h3 (fun g hg=>(h.list.lt hg).1) hB,hf,h3,h4⟩
 · rw[List.length_append,List.map_append]
   exact h2
 ·
  rcases List.mem_append.1 ht with ht|ht
  · exact(h.vs.fp hf) t ht
  · exact(hu.fp hf) t ht
theorem PGrow.app{w:World}{B nb c m:Nat}{v:Value}{ts us:List RT}(h:PGrow w B v ts)(hu:RVs w us)(hm:us.length=m)(hc:∀j u,(us.map ptrV)[j]?=some u->w.cell? ((⟨nb,0,none⟩:Addr).add j)=some u)(hn:ts.length+m<=1048576)(hB:B<=w.heap.size)(ty:TypeId):
 ∃v' w',appR Tryz.prog 33 ty v (.slice (some ⟨nb,0,none⟩) m c) w=.ok v' w'/\PGrow w' B v' (ts++us)/\Below B w w'/\Fp w w':=by
 obtain⟨v',w',h1,h2,h3,h4,_⟩:=h.appT Tryz.underlying33 hu hm hc hn hB ty;exact⟨v',w',h1,h2,h3,h4⟩
end Go.Proofs.YtfpcipgoedifaaaGreatDoor
