import Derived.Test.YtjgofdclmcpopaaGreatDoorC43BalG
import Derived.BigRegion
import Derived.Test.YtjgofdclmcpopaaGreatDoorC36Minors
namespace Go.Proofs.YtjgofdclmcpopaaGreatDoor
open Go.RowKit
open Go.Proofs.Tryz
set_option linter.unusedSimpArgs false
set_option linter.unusedVariables false
set_option maxHeartbeats 8000000
set_option maxRecDepth 1000000
def turnTo(M:Nat->Nat->Rat)(k j:Nat):Nat->Nat->Rat:=fun c i=>if i<k∨(i=k/\c<j) then M i c else 0
theorem Que(a:Option Addr)(cap W K:Nat)(rs:List MR)(w:World)(h:QMat w a cap W rs)(hk:∀r,r∈ rs->∀t,t∈ r.ts->t.k<=K)(hl:rs.length<=1000)(hW:W<=1000)(hK0:0<K):
 Calls prog 122 #[.slice a rs.length cap,.int .i64 W] w fun e w'=>∃(G:Nat) (ts:List MR),e=.returned (.slice (some ⟨G,0,none⟩) W W)/\ts.length=W/\QMat w' (some ⟨G,0,none⟩) W rs.length ts/\Oks w' rs.length K ts/\ts.map MR.q=(List.range W).map (fun c i=>if i<rs.length then (rs.map MR.q).getD i (fun _=>0) c else 0)/\Below w.heap.size w w':=by
 obtain⟨HQ,HK⟩:=Ia h hk;obtain⟨n,hn⟩:=nm rs.length;have HBL:=Hi (Qgv W n w hW (by omega));obtain⟨M,hM⟩:∃M:Nat->Nat->Rat,M=fun i c=>(rs.map MR.q).getD i (fun _=>0) c:=⟨_,rfl⟩
 obtain⟨HM,HN⟩:=Ia hM hn;rw[hn] at hl ⊢;clear h hk hM hn;go_enter func122,ntmps122;go_wp2_with fail;go_fit HBL.o;rintro e v ⟨⟨G,gs,rfl,hgl,hGlo,hout,hrow,hnd⟩,hb⟩;have HGM:O (GM w v w.heap.size G n K gs (turnTo M 0 0)):=Hi (by
  refine⟨hb,hout,fun r g hr=>⟨_,(hrow r g hr).1,by simp,fun c t ht=>?_⟩,hnd,fun r g hr=>by have:=(hrow r g hr).2;omega,hGlo,fun r g hr=>by have:=(hrow r g hr).2;omega⟩;obtain⟨_,rfl⟩:=List.mem_replicate.1 (mO ht)
  exact⟨by simp[turnTo,FE.zero],by simp[FE.zero];omega⟩)
 have HGL:=Hi hgl;clear hgl hGlo hout hrow hnd hb HBL;go_wp2_with fail;go_loopw [15] (fun iv wr=>∃k:Nat,k<=n/\iv=.int .i64 k/\GM w wr w.heap.size G n K gs (turnTo M k 0)) (fun iv _=>n - (intOf iv).toNat)
 case atStart=>exact⟨0,Nat.zero_le _,rfl,HGM.o⟩
 case round=>
  obtain⟨k,hk,rfl,hgm⟩:=hrel;have HG:=Hi hgm;clear hgm;by_cases hkn:k<n
  .
   obtain⟨r,hr⟩:∃r,rs[k]?=some r:=⟨rs[k]'(by have:=HN.o;omega),gE _⟩;have hqm:=HQ.o.below HG.o.base;obtain⟨b,off,rfl,hbw,d0⟩:=hqm.at hr;have q1:((k:Int)<(n:Int)):=by omega
   have HR:=Hi hr;clear hqm hr;go_wp2_with fail;clear d0;go_loopw [21] (fun jv wi=>∃j:Nat,j<=W/\jv=.int .i64 j/\GM w wi w.heap.size G n K gs (turnTo M k j)) (fun jv _=>W - (intOf jv).toNat)
   case atStart=>exact⟨0,Nat.zero_le _,rfl,HG.o⟩
   case round=>
    obtain⟨j,hj,rfl,hgm⟩:=hrel;have HJ:=Hi hgm;clear hgm;by_cases hjW:j<W
    .
     obtain⟨g,hg⟩:∃g,gs[j]?=some g:=⟨gs[j]'(by have:=HGL.o;omega),gE _⟩;have hqm:=HQ.o.below HJ.o.base;obtain⟨hrow,hrl⟩:=hqm.get HR.o;obtain⟨e,he⟩:∃e,r.ts[j]?=some e:=⟨r.ts[j]'(by omega),gE _⟩;obtain⟨rb,ro,hra,hrb,d0,d1,d2⟩:=hrow.at he;have hev:=hrow.get he;have hek:=HK.o r (mO HR.o) e (mO he);have s0:=HJ.o.cell hg;obtain⟨x,y,z,c0,c1,c2,f0,f1,f2⟩:=HJ.o.at hg hkn;have HPT:O (GM w (set3 wr g k e.x e.y e.z) w.heap.size G n K gs (turnTo M k (j+1))):=Hi (by
      refine(HJ.o.put lZ hg hkn hev.1 (hev.2.1.mono hek) hK0).congr (fun c i=>?_);have hMe:M k j=e.q:=by rw[HM.o];simp[List.getD,HR.o,MR.q_at he]
      simp only[updM,turnTo];by_cases h1:c=j/\i=k
      . obtain⟨rfl,rfl⟩:=h1
        rw[if_pos ⟨rfl,rfl⟩,if_pos (.inr ⟨rfl,by omega⟩),hMe]
      .
       rw[if_neg h1];by_cases h2:i<k∨(i=k/\c<j)
       . rw[if_pos h2,if_pos (by omega)]
       . rw[if_neg h2,if_neg (by omega)])
     obtain⟨o1,o2,o3⟩:=hev.1.one;have st0:=Qap prog o1;have st1:=Qap prog o2;have st2:=Qap prog o3;have q2:((j:Int)<(W:Int)):=by omega
     have q3:((j:Int)<(r.ts.length:Int)):=by omega
     rw[hra];clear hqm hrow hrl he hev hek o1 o2 o3 hra;go_wp2_with fail;go_region;go_wp2;go_roundw
     case rel=>exact⟨j+1,by omega,by go_num,HPT.o.below bR.drew⟩
     case measure=>simp[intOf];omega
    .
     obtain rfl:j=W:=by omega
     have HE:O (GM w wr w.heap.size G n K gs (turnTo M (k+1) 0)):=Hi (by
      refine HJ.o.congr (fun c i=>?_);simp only[turnTo];by_cases h2:i<k∨(i=k/\c<j)
      . rw[if_pos h2,if_pos (by omega)]
      .
       rw[if_neg h2];by_cases h3:i<k+1
       .
        obtain rfl:i=k:=by omega
        have hrl:=(HQ.o.get HR.o).2;rw[if_pos (.inl h3),HM.o];simp only[List.getD,List.getElem?_map,HR.o,Option.map_some,Option.getD_some];rw[MR.q_beyond (by omega)]
       . rw[if_neg (by omega)])
     go_wp2;go_roundw
     case rel=>exact⟨k+1,by omega,by go_num,HE.o⟩
     case measure=>simp[intOf];omega
  .
   obtain rfl:k=n:=by omega
   obtain⟨ts,t1,t2,t3,t4,t5⟩:=HG.o.rows (fun r c hc=>if_neg (by omega));go_wp2;go_ret;refine⟨G,ts,rfl,?_,?_,?_,?_,HG.o.base⟩
   . rw[t1,HGL.o]
   . rw[<-HGL.o];exact t2
   . exact t3
   .
    rw[t5,HGL.o];apply List.map_congr_left;intro c _;funext i;simp only[turnTo,HM.o,Nat.not_lt_zero,and_false,or_false]
def S2.none:S2:=⟨⟨#[]⟩,⟨#[]⟩⟩
theorem Qo8(n:Nat):madeCells (Value.cells (.agg #[.string ⟨#[]⟩,.string ⟨#[]⟩])) (n*2)=((List.replicate n S2.none).flatMap S2.cells).toArray:=by
 apply Array.ext';apply List.ext_getElem?;intro i;by_cases hi:i<n*2
 .
  have h1:(List.replicate n S2.none)[i / 2]?=some S2.none:=by rw[List.getElem?_replicate,if_pos (by omega)]
  have h3:i % 2=0∨i % 2=1:=by omega
  have e0:Value.cells (.agg #[.string ⟨#[]⟩,.string ⟨#[]⟩])=#[.string ⟨#[]⟩,.string ⟨#[]⟩]:=by rfl
  have h4:i / 2*2+i % 2=i:=by omega
  have hm:(madeCells (Value.cells (.agg #[.string ⟨#[]⟩,.string ⟨#[]⟩])) (n*2)).toList[i]?=some ((#[Value.string ⟨#[]⟩,.string ⟨#[]⟩]:Array Value)[i % 2]!):=by
   rw[e0];simp[madeCells,hi]
  rw[hm];have hf:∀u,(S2.cells S2.none)[i % 2]?=some u->((List.replicate n S2.none).flatMap S2.cells)[i]?=some u:=fun u hu=>by
   have:=Qb3 (sz:=2) (fun _=>rfl) _ _ _ _ _ h1 hu;rw[h4] at this;exact this
  simp only[List.toList_toArray];rcases h3 with h3|h3
  all_goals
   rw[h3] at hf ⊢;exact(hf _ rfl).symm
 .
  have h1:((List.replicate n S2.none).flatMap S2.cells).length=n*2:=by rw[Qb2 (sz:=2) (fun _=>rfl)];simp
  have h2:=size_madeCells (Value.cells (.agg #[.string ⟨#[]⟩,.string ⟨#[]⟩])) (n*2);rw[List.getElem?_eq_none (by rw[Array.length_toList,h2];omega),List.getElem?_eq_none (by simp only[List.toList_toArray];rw[h1];omega)]
theorem Qo9:(prog.info? 25).map (fun i=>(i.zero,i.size,i.bytes))=some (some (.agg #[.string ⟨#[]⟩,.string ⟨#[]⟩]),2,32):=by kernel_rfl
theorem Qpa(n:Nat)(hn:n<=1048576)(w:World):(Instr.makeSlice 50 (.int .i64 n) (.int .i64 n)).run prog w=.ok (.slice (some ⟨w.heap.size,0,.none⟩) n n) (w.alloc (.cells ((List.replicate n S2.none).flatMap S2.cells).toArray 25)):=by
 obtain⟨i,hi,h⟩:=Option.map_eq_some_iff.1 Qo9;simp only[Prod.mk.injEq] at h;obtain⟨hz,hs,hb⟩:=h;have:=run_make w 50 25 i _ underlying50 hi hz .i64 .i64 n n (by omega) (by omega) (by rw[hb];omega) (by omega);rw[Int.toNat_natCast,hs,Qo8] at this;exact this
theorem Qip:∀(ss:List S2) (k:Nat) (e:S2),k<ss.length->(ss.set k e).flatMap S2.cells=((ss.flatMap S2.cells).set (k*2) (.string e.x)).set (k*2+1) (.string e.y)
 | [],k,e,h=>by simp at h
 |t :: l,0,e,_=>by simp[S2.cells]
 |t :: l,k+1,e,h=>by
  have ih:=Qip l k e (by simpa using h);rw[List.set_cons_succ,List.flatMap_cons,ih,List.flatMap_cons];simp only[S2.cells,List.cons_append,List.nil_append];rw[show (k+1)*2=k*2+1+1 by omega];simp only[List.set_cons_succ,Nat.add_assoc]
def SpotsTold(x:Vec)(ss:List S2):Prop:=∀(i:Nat) (s:S2),ss[i]?=some s->QText s.x.data.toList (x (2*i))/\QText s.y.data.toList (x (2*i+1))
theorem Qpb(a:Option Addr)(cap n K:Nat)(r:MR)(w:World)(hg:Glob w)(h:MOk w (2*n) K r)(hra:r.a=a)(hrc:r.cap=cap)(hK:K<=274877906944)(hn:n<=10):
 Calls prog 123 #[.slice a (2*n) cap] w fun e w'=>(∃(g:Nat) (ss:List S2),e=.returned (.slice (some ⟨g,0,none⟩) n n)/\ss.length=n/\SB w' g 25 (ss.flatMap S2.cells).toArray/\SpotsTold r.q ss)/\Below w.heap.size w w':=by
 subst hra;subst hrc;obtain⟨HH,HGL⟩:=Ia h hg;have hmk:=fun w=>Qpa n (by omega) w
 obtain⟨MC,hMC⟩:=nm (((List.replicate n S2.none).flatMap S2.cells).toArray);rw[hMC] at hmk;have HMC:=Hi hMC;have hq2:((2*n:Nat):Int).tdiv 2=(n:Int):=by rw[Int.tdiv_eq_ediv_of_nonneg (by omega)];omega
 have hq3:IntKind.i64.wrap (n:Int)=(n:Int):=Qac _ (by omega) (by omega);clear h hg hMC;go_enter func123,ntmps123;go_wp2_with fail;clear hmk;obtain⟨g,hg⟩:=nm w.heap.size;obtain⟨V,hV⟩:=nm (w.alloc (.cells MC 25));have HB0:O (Below g w V):=Hi (by rw[<-hV,<-hg];exact(Below.refl _ _).alloc lZ _);have HQ0:O (SB V g 25 ((List.replicate n S2.none).flatMap S2.cells).toArray):=Hi (by rw[<-hV,<-hg,HMC.o];exact SB.new w _ _)
 try rw[hV]
 try rw[hg]
 clear hV;go_loopw [11] (fun i wr=>∃(k:Nat) (ss:List S2),k<=n/\i=.int .i64 k/\ss.length=n/\SB wr g 25 (ss.flatMap S2.cells).toArray/\(∀(i:Nat) (s:S2),i<k->ss[i]?=some s->QText s.x.data.toList (r.q (2*i))/\QText s.y.data.toList (r.q (2*i+1)))/\Below g w wr) (fun i _=>n - (intOf i).toNat)
 case atStart=>exact⟨0,_,by omega,rfl,by simp,HQ0.o,fun i s hi=>by omega,HB0.o⟩
 case round=>
  obtain⟨k,ss,hk,rfl,hsl,hsb,hall,hb⟩:=hrel;obtain⟨HB,HSB,HA⟩:=Ib hb hsb hall;have hgl:=hsb.lt;have HSL:=Hi hsl;clear hb hsb hall hsl;by_cases hlt:k<n
  .
   have hbw:Below w.heap.size w wr:=by rw[hg];exact HB.o
   have hlen:=HH.o.len;obtain⟨t,ht⟩:∃t,r.ts[2*k]?=some t:=⟨r.ts[2*k]'(by omega),gE _⟩;obtain⟨u,hu⟩:∃u,r.ts[2*k+1]?=some u:=⟨r.ts[2*k+1]'(by omega),gE _⟩;have hrw:=HH.o.row.below hbw;obtain⟨fb,off,hfa,hfb,d0,d1,d2⟩:=hrw.at ht;obtain⟨HTV,HUV,HTK,HUK,HTA,HTQ,HUQ,HWB,HRX⟩:=Ih (hrw.get ht) hu (HH.o.sz t (mO ht)) (HH.o.sz u (mO hu)) (HGL.o.below hbw) (MR.q_at ht) (MR.q_at hu) hbw (fun v=>Qc6 k v (by omega));have HRY:=Hi (fun v=>Qc7 k v (by omega));have q1:((k:Int)<(n:Int)):=by omega
   have q2:((2*k:Nat):Int)<((2*n:Nat):Int):=by omega
   have q3:((2*k+1:Nat):Int)<((2*n:Nat):Int):=by omega
   have ek:(2*(k:Int))=((2*k:Nat):Int):=by omega
   have ek1:(2*(k:Int)+1)=((2*k+1:Nat):Int):=by omega
   simp only[ek] at HRX;simp only[ek1] at HRY;obtain⟨s0,hs0⟩:∃s0,ss[k]?=some s0:=⟨ss[k]'(by have:=HSL.o;omega),gE _⟩;obtain⟨HS0,HFA⟩:=Ia hs0 hfa;rw[hfa];clear ht hbw hs0 hlen hrw hu ek ek1 hfa;go_wp2_with fail;go_fit (HRX.o wr);rintro e w1 ⟨rfl,rfl⟩;go_wp2_with fail;go_fit (Qfg HTA.o.tab HTV.o.1 (HTV.o.2.1.mono HTK.o) hK);rintro e w2 ⟨⟨s,rfl,hqt⟩,hb2⟩;obtain⟨HQT,HB2⟩:=Ia hqt hb2;clear hqt hb2 d0 d1 d2;go_wp2_with fail;go_fit (HRY.o w2);rintro e w3 ⟨rfl,rfl⟩;have hrw:=(HH.o.row.below HWB.o).below HB2.o;obtain⟨fb',off',hfa',hfb',d0,d1,d2⟩:=hrw.at HUV.o;have HUW:=Hi (hrw.get HUV.o);obtain⟨e1,e2⟩:fb=fb'/\off=off':=by
    have:=HFA.o.symm.trans hfa'
    simpa using this
   subst e1;subst e2;clear hrw hfa';go_wp2_with fail;go_fit (Qfg (HTA.o.below HB2.o).tab HUW.o.1 (HUW.o.2.1.mono HUK.o) hK);rintro e w4 ⟨⟨s',rfl,hqt'⟩,hb4⟩;have HQT':=Hi hqt';obtain⟨HB4,HSB4⟩:=Ia hb4 ((HSB.o.below HB2.o HSB.o.lt).below hb4 (HSB.o.below HB2.o HSB.o.lt).lt);have f0:=HSB4.o.free (k*2);have f1:=HSB4.o.free (k*2+1);have hA:ARow S2.cells w4 (some ⟨g,0,none⟩) n ss:=HSB4.o.arow rfl (by have:=HSL.o;omega);obtain⟨bb,oo,hbo,_,t0,t1⟩:=hA.spot HS0.o;cases hbo;simp only[Nat.zero_add] at t0 t1;clear hqt' hb4 d0 d1 d2 hA;go_wp2;go_roundw
   case rel=>
    refine⟨k+1,ss.set k ⟨s,s'⟩,by omega,by go_num,by rw[List.length_set];exact HSL.o,?_,fun i y hi hy=>?_,(((HB.o.trans (HB2.o.mono (Nat.le_of_lt hgl))).trans (HB4.o.mono (Nat.le_trans (Nat.le_of_lt hgl) HB2.o.size))).setCell (p:=⟨g,k*2,none⟩) lZ _).setCell (p:=⟨g,k*2+1,none⟩) lZ _⟩
    .
     have:=(HSB4.o.set (k*2) (.string s)).set (k*2+1) (.string s');rw[Qip _ _ _ (by have:=HSL.o;omega)]
     simpa using this
    .
     rcases Nat.lt_or_ge i k with h1|h1
     . rw[List.getElem?_set_ne (by omega)] at hy
       exact HA.o i y h1 hy
     .
      obtain rfl:i=k:=by omega
      rw[List.getElem?_set_self (by have:=HSL.o;omega)] at hy;obtain rfl:=Option.some.inj hy;exact⟨HTQ.o ▸ HQT.o,HUQ.o ▸ HQT'.o⟩
   case measure=>simp[intOf];omega
  .
   have hk':k=n:=by omega
   subst hk';go_wp2;go_ret;rw[hg];exact⟨⟨g,ss,rfl,HSL.o,HSB.o,fun i s hs=>HA.o i s (by have:=(gZ hs).1;have:=HSL.o;omega) hs⟩,HB.o⟩
end Go.Proofs.YtjgofdclmcpopaaGreatDoor
namespace Go.Proofs.YtjgofdclmcpopaaGreatDoor
open Go.Proofs.Tryz
set_option linter.unusedSimpArgs false
set_option linter.unusedVariables false
set_option maxHeartbeats 8000000
set_option maxRecDepth 1000000
theorem Qnh(p:Rat):p*(p.den:Rat)=(p.num:Rat):=by
 have hd:(p.den:Rat)≠0:=by
  intro h;exact p.den_nz (Rat.natCast_inj.1 (by rw[h];rfl))
 have:p=(p.num:Rat) / (p.den:Rat):=by rw[<-Rat.mkRat_eq_div,Rat.mkRat_self]
 rw[Rat.div_def] at this;have e:p*(p.den:Rat)=(p.num:Rat)*(p.den:Rat)⁻¹*(p.den:Rat):=by rw[<-this]
 rw[e,Rat.mul_assoc,Rat.inv_mul_cancel _ hd,Rat.mul_one]
def denP:List Rat->Nat
 | []=>1
 |q :: l=>q.den*denP l
theorem Qhf:∀l:List Rat,0<denP l
 | []=>by decide
 |q :: l=>Nat.mul_pos q.den_pos (Qhf l)
theorem Qhg:∀(l:List (Rat × Nat)),(∀p,p∈ l->Fits p.1 p.2)->denP (l.map (·.1))<=2 ^ (l.map (·.2)).sum
 | [],_=>by decide
 |p :: l,h=>by
  rw[List.map_cons,List.map_cons,denP,List.sum_cons,Nat.pow_add];exact Nat.mul_le_mul (Nat.le_of_lt (h p (by simp)).2) (Qhg l fun q hq=>h q (by simp[hq]))
def Wh(P b:Nat)(q:Rat):Prop:=∃z:Int,q*(P:Rat)=(z:Rat)/\z.natAbs<=2 ^ b
theorem Wh.mono{P b c:Nat}{q:Rat}(h:Wh P b q)(hbc:b<=c):Wh P c q:=by
 obtain⟨z,e,hz⟩:=h;exact⟨z,e,Nat.le_trans hz (Nat.pow_le_pow_right (by decide) hbc)⟩
theorem Wh.zero(P b:Nat):Wh P b 0:=⟨0,by rw[Rat.zero_mul];rfl,by simp⟩
theorem Wh.neg{P b:Nat}{q:Rat}(h:Wh P b q):Wh P b (-q):=by
 obtain⟨z,e,hz⟩:=h;refine⟨-z,?_,by rw[Int.natAbs_neg];exact hz⟩;rw[Rat.intCast_neg,<-e];grind
theorem Wh.sub{P b:Nat}{p q:Rat}(h:Wh P b p)(k:Wh P b q):Wh P (b+1) (p - q):=by
 obtain⟨y,e,hy⟩:=h;obtain⟨z,f,hz⟩:=k;refine⟨y - z,?_,?_⟩
 . rw[Rat.intCast_sub,<-e,<-f]
   grind
 . rw[Nat.pow_succ]
   omega
theorem Wh.of_mem:∀{l:List Rat} {q:Rat} {k m:Nat},q∈ l->Fits q k->denP l<=2 ^ m->Wh (denP l) (k+m) q
 |p :: l,q,k,m,h,hf,hm=>by
  have key:∀(t:List Rat) (q:Rat),q∈ t->∃d:Nat,denP t=q.den*d/\d<=denP t:=fun t=>by
   induction t with
   |nil=>intro q hq;cases hq
   |cons p t ih=>
    intro q hq;rcases List.mem_cons.1 hq with rfl|hq
    . exact⟨denP t,rfl,Nat.le_mul_of_pos_left _ q.den_pos⟩
    .
     obtain⟨d,e,hd⟩:=ih q hq;refine⟨p.den*d,?_,?_⟩
     . rw[denP,e,Nat.mul_left_comm]
     . rw[denP];exact Nat.mul_le_mul_left _ hd
  obtain⟨d,e,hd⟩:=key _ q h;refine⟨q.num*(d:Int),?_,?_⟩
  . rw[e,Rat.natCast_mul,<-Rat.mul_assoc,Qnh,Rat.intCast_mul,Rat.intCast_natCast]
  . rw[Int.natAbs_mul,Int.natAbs_natCast,Nat.pow_add]
    exact Nat.mul_le_mul (Nat.le_of_lt hf.1) (Nat.le_trans hd hm)
theorem Wh.one{P b:Nat}(h:P<=2 ^ b):Wh P b 1:=⟨(P:Int),by rw[Rat.one_mul,Rat.intCast_natCast],by simpa using h⟩
theorem Qni{a b:Nat}(ha:a=2 ^ b):(20+1)*(a*(2*((20+1)*a)) ^ 20)<=2 ^ (5+(b+(6+b)*20)):=by
 have h0:2 ^ 6=64:=by decide
 have h1:2*((20+1)*a)<=2 ^ (6+b):=by rw[Nat.pow_add,ha];omega
 have h2:(2*((20+1)*a)) ^ 20<=(2 ^ (6+b)) ^ 20:=Nat.pow_le_pow_left h1 20;rw[<-Nat.pow_mul] at h2;rw[Nat.pow_add 2 5,Nat.pow_add 2 b,<-ha];exact Nat.mul_le_mul (by decide) (Nat.mul_le_mul_left _ h2)
abbrev kE(b:Nat):Nat:=21*b+126
abbrev kC(b:Nat):Nat:=22*b+126
abbrev kW(b:Nat):Nat:=41*kC b+20
theorem Qdf{b W P:Nat}{M:List Vec}(hP:0<P)(hPb:P<=2 ^ b)(hM:∀r,r∈ M->∀j,Wh P b (r j))(hz:∀r,r∈ M->∀i,W<=i->r i=0)(hl:M.length<=20∨W<=20):
 Going (kE b) (MJ W 20 (kC b) M)/\MJ W 20 (kC b) M 0 M [] []/\∀L S hs,MJ W 20 (kC b) M W L S hs->(Ech 0 W S hs/\∀x,Null W M x↔Null W S x)/\clnFits (kW b) S hs/\∀v,v∈ cln S hs->∀i,Fits (v i) (kC b):=by
 have hD:∀j:Nat,0<(fun _=>P) j/\(fun _=>P) j<=2 ^ b:=fun _=>⟨hP,hPb⟩
 have h1:=Qni (a:=2 ^ b) (b:=b) rfl;have ha:0<2 ^ b:=Nat.pow_pos (by decide);have hK:(20+1)*(2 ^ b*(2*((20+1)*2 ^ b)) ^ 20)<2 ^ kE b:=Nat.lt_of_le_of_lt h1 (Nat.pow_lt_pow_right (by decide) (by simp only[kE];omega));have hK2:(20+1)*(2 ^ b*(2*((20+1)*2 ^ b)) ^ 20)*2 ^ b<2 ^ kC b:=by
  refine Nat.lt_of_le_of_lt (Nat.mul_le_mul_right _ h1) ?_;rw[<-Nat.pow_add];exact Nat.pow_lt_pow_right (by decide) (by simp only[kC];omega)
 refine⟨MJ.going (D:=fun _=>P) ha hD hM hK (by simp only[kE];omega) hK2 (by simp only[kC];omega),MJ.start W 20 _ M hz hl,fun L S hs h=>⟨h.1.done,?_⟩⟩;exact MJ.clean (D:=fun _=>P) ha hD hM hK2 (by simp only[kC];omega) (by simp only[kW,kC];omega) h
theorem Going.mono{K K':Nat}{I:Nat->List Vec->List Vec->List Nat->Prop}(h:Going K I)(hK:K<=K'):Going K' I:=⟨fun hi r hr i=>(h.fit hi r hr i).mono hK,h.skip,h.step⟩
open Go.RowKit
theorem FrameFault.few{js:List S2}{bs:List B6}{hs:List H3}{x:Int}(h:FrameFault js bs hs 0 x):¬Many js.length bs.length hs.length/\(∀(i:Nat) (b:B6),bs[i]?=some b->BarCode js b 0)/\(∀i y,hs[i]?=some y->holdAt js.length hs i y=0)/\x=0:=by
 rcases h with ⟨_,h,_⟩|⟨_,k,b,_,_,_,h,_⟩|⟨h1,h2,h⟩
 . cases h
 . exact absurd rfl h
 .
  rcases h with ⟨_,_,_,_,_,h,_⟩|⟨h3,_,h4⟩
  . exact absurd rfl h
  . exact⟨h1,h2,h3,h4⟩
theorem Qme{js:List S2}{bs:List B6}{hs:List H3}(hz:FrSized js bs hs){b:B6}(h:BarCode js b 0):∃p:Nat × Nat × Rat × Rat,BarV 1048576 js b p/\p.1<js.length/\p.2.1<js.length/\¬(p.2.2.1=0/\p.2.2.2=0):=by
 rcases h with ⟨_,h⟩|⟨h1,h2,s,t,hs,ht,px,py,qx,qy,vc,vl,vm,q1,q2,q3,q4,_,_,_,hc⟩
 . cases h
 have hne:¬(px=qx/\py=qy):=fun e=>by rw[if_pos e] at hc;cases hc
 have z1:=hz.j s (mO hs);have z2:=hz.j t (mO ht);have g1:=h1.1;have g2:=h2.1;have g3:=h1.2;have g4:=h2.2;refine⟨(b.a.toNat,b.b.toNat,qx - px,qy - py),⟨by simp only;omega,by simp only;omega,fun e=>?_,s,t,px,py,qx,qy,hs,ht,z1.1,z1.2,z2.1,z2.2,q1,q2,q3,q4,rfl,rfl⟩,by simp only;omega,by simp only;omega,fun ⟨e1,e2⟩=>hne ⟨?_,?_⟩⟩
 .
  simp only at e;rw[e,ht] at hs;cases hs;exact hne ⟨q1.inj q3,q2.inj q4⟩
 . simp only at e1
   grind
 . simp only at e2
   grind
theorem Qmf{n:Nat}{hs:List H3}{i:Nat}{h:H3}(k:holdAt n hs i h=0):∃r:Nat,HoldV n h r:=by
 unfold holdAt holdC at k;have hj:0<=h.j/\h.j<n:=by
  apply bC;intro hn;rw[if_neg hn] at k;cases k
 obtain⟨g1,g2⟩:=hj;exact⟨_,h.j.toNat,by omega,by omega,rfl⟩
theorem Qmg{js:List S2}{bs:List B6}{hs:List H3}(hz:FrSized js bs hs){x:Int}(h:FrameFault js bs hs 0 x):∃(vb:List (Nat × Nat × Rat × Rat)) (vh:List Nat),FrV 1048576 js bs hs vb vh/\∀p,p∈ vb->p.1<js.length/\p.2.1<js.length/\¬(p.2.2.1=0/\p.2.2.2=0):=by
 obtain⟨hm,hb,hh,_⟩:=h.few;have exb:∀i:Nat,∃p:Nat × Nat × Rat × Rat,∀b,bs[i]?=some b->BarV 1048576 js b p/\p.1<js.length/\p.2.1<js.length/\¬(p.2.2.1=0/\p.2.2.2=0):=fun i=>by
  rcases hi:bs[i]? with _|b
  . exact⟨(0,0,0,0),fun b hb=>by cases hb⟩
  . obtain⟨p,hp⟩:=Qme hz (hb i b hi)
    exact⟨p,fun b' e=>by cases e;exact hp⟩
 have exh:∀i:Nat,∃r:Nat,∀y,hs[i]?=some y->HoldV js.length y r:=fun i=>by
  rcases hi:hs[i]? with _|y
  . exact⟨0,fun b hb=>by cases hb⟩
  . obtain⟨r,hr⟩:=Qmf (hh i y hi)
    exact⟨r,fun y' e=>by cases e;exact hr⟩
 obtain⟨f,hf⟩:=Classical.axiomOfChoice exb;obtain⟨g,hg⟩:=Classical.axiomOfChoice exh;have hat:∀{β:Type} (F:Nat->β) (L i:Nat) (p:β),((List.range L).map F)[i]?=some p->i<L/\p=F i:=fun F L i p hp=>by
  have hl:=(gZ hp).1;rw[List.length_map,List.length_range] at hl;rw[List.getElem?_map,List.getElem?_range hl] at hp;exact⟨hl,(Option.some.inj hp).symm⟩
 refine⟨(List.range bs.length).map f,(List.range hs.length).map g,⟨?_,?_,?_,by simp,by simp,fun i b p hb hp=>?_,fun i y r hy hr=>?_,Nat.le_refl _⟩,fun p hp=>?_⟩
 . exact Nat.le_of_not_lt fun h=>hm (.inr (.inl h))
 . exact Nat.le_of_not_lt fun h=>hm (.inr (.inr (.inl h)))
 . exact Nat.le_of_not_lt fun h=>hm (.inr (.inr (.inr h)))
 . obtain⟨_,rfl⟩:=hat f _ _ _ hp
   exact(hf i b hb).1
 . obtain⟨_,rfl⟩:=hat g _ _ _ hr
   exact hg i y hy
 .
  obtain⟨i,hi,rfl⟩:=List.mem_map.1 hp;have hil:=List.mem_range.1 hi;exact(hf i bs[i] (gE hil)).2
end Go.Proofs.YtjgofdclmcpopaaGreatDoor
namespace Go.Proofs.YtjgofdclmcpopaaGreatDoor
open Go.Proofs.Tryz
set_option linter.unusedSimpArgs false
set_option linter.unusedVariables false
set_option maxHeartbeats 8000000
set_option maxRecDepth 1000000
def jW:List S2->Nat
 | []=>0
 |s :: l=>s.x.size+s.y.size+jW l
theorem Qev:∀{l:List S2} {s:S2},s∈ l->s.x.size<=jW l/\s.y.size<=jW l
 |t :: l,s,h=>by
  rcases List.mem_cons.1 h with rfl|h
  . simp only[jW];omega
  . have:=Qev h;simp only[jW];omega
theorem Qmh(s:ByteArray):s.data.toList.length=s.size:=by rw[Array.length_toList];rfl
theorem QOf.fits'{s:ByteArray}{q:Rat}{n:Nat}(h:QOf s.data.toList q)(hn:s.size<=n):Fits q (4*n+1):=h.fits (by rw[Qmh];exact hn)
theorem Qg4:∀js:List S2,∃l:List (Rat × Nat),(∀p,p∈ l->Fits p.1 p.2)/\(l.map (·.2)).sum=4*jW js+2*js.length/\∀s,s∈ js->∀x y,QOf s.x.data.toList x->QOf s.y.data.toList y->x∈ l.map (·.1)/\y∈ l.map (·.1)
 | []=>⟨[],(fun p hp=>by cases hp),rfl,(fun s hs=>by cases hs)⟩
 |s :: js=>by
  obtain⟨l,h1,h2,h3⟩:=Qg4 js;obtain⟨x,hx⟩:=QOf.ex s.x.data.toList;obtain⟨y,hy⟩:=QOf.ex s.y.data.toList;refine⟨(x,4*s.x.size+1) :: (y,4*s.y.size+1) :: l,fun p hp=>?_,?_,fun t ht u v hu hv=>?_⟩
  .
   rcases List.mem_cons.1 hp with rfl|hp
   . exact hx.fits' lZ
   .
    rcases List.mem_cons.1 hp with rfl|hp
    . exact hy.fits' lZ
    . exact h1 p hp
  . simp only[List.map_cons,List.sum_cons,h2,jW,List.length_cons]
    omega
  .
   rcases List.mem_cons.1 ht with rfl|ht
   . rw[hu.inj hx,hv.inj hy]
     simp
   . obtain⟨k1,k2⟩:=h3 t ht u v hu hv
     exact⟨List.mem_cons_of_mem _ (List.mem_cons_of_mem _ k1),List.mem_cons_of_mem _ (List.mem_cons_of_mem _ k2)⟩
structure FrP (P b:Nat) (vb:List (Nat × Nat × Rat × Rat)):Prop where
 pos:0<P
 le:P<=2 ^ b
 wh:∀p,p∈ vb->Wh P b p.2.2.1/\Wh P b p.2.2.2
theorem FrP.at{P b nb:Nat}{vb:List (Nat × Nat × Rat × Rat)}{vh:List Nat}(h:FrP P b vb)(r c:Nat):Wh P b (balM vb nb vh r c):=by
 unfold balM;cases hp:vb[c]? with
 |none=>
  simp only;cases vh[c - nb]? with
  |none=>exact Wh.zero _ _
  |some x=>
   simp only
   split
   . exact Wh.one h.le
   . exact Wh.zero _ _
 |some p=>
  obtain⟨w1,w2⟩:=h.wh p (mO hp);simp only[barAt]
  split
  . exact w1
  .
   split
   . exact w1.neg
   .
    split
    . exact w2
    .
     split
     . exact w2.neg
     . exact Wh.zero _ _
def balCols(nj:Nat)(vb:List (Nat × Nat × Rat × Rat))(nb:Nat)(vh:List Nat)(nh:Nat):List Vec:=(List.range (nb+nh)).map (fun c i=>if i<2*nj then balM vb nb vh i c else 0)
theorem Qmi{nj nb nh:Nat}{vb:List (Nat × Nat × Rat × Rat)}{vh:List Nat}{L:List Vec}(h:L=balRows nj vb nb vh):(List.range (nb+nh)).map (fun c i=>if i<L.length then L.getD i (fun _=>0) c else 0)=balCols nj vb nb vh nh:=by
 subst h;unfold balCols;apply List.map_congr_left;intro c _;funext i;have hl:(balRows nj vb nb vh).length=2*nj:=by simp[balRows]
 rw[hl];by_cases hi:i<2*nj
 . rw[if_pos hi,if_pos hi]
   simp[balRows,List.getD,hi]
 . rw[if_neg hi,if_neg hi]
section
variable {n P b:Nat} {js:List S2} {bs:List B6} {hs:List H3} {vb:List (Nat × Nat × Rat × Rat)} {vh:List Nat}
theorem FrP.rows(h:FrP P b vb)(hv:FrV n js bs hs vb vh):
 Going (kE b) (MJ (bs.length+hs.length) 20 (kC b) (balRows js.length vb bs.length vh))/\MJ (bs.length+hs.length) 20 (kC b) (balRows js.length vb bs.length vh) 0 (balRows js.length vb bs.length vh) [] []/\
 ∀L S hh,MJ (bs.length+hs.length) 20 (kC b) (balRows js.length vb bs.length vh) (bs.length+hs.length) L S hh->(Ech 0 (bs.length+hs.length) S hh/\∀x,Null (bs.length+hs.length) (balRows js.length vb bs.length vh) x↔Null (bs.length+hs.length) S x)/\clnFits (kW b) S hh/\∀v,v∈ cln S hh->∀i,Fits (v i) (kC b):=by
 refine Qdf h.pos h.le (fun r hr j=>?_) (fun r hr i hi=>?_) (.inl ?_)
 . obtain⟨k,_,rfl⟩:=List.mem_map.1 hr
   exact h.at k j
 . obtain⟨k,_,rfl⟩:=List.mem_map.1 hr
   exact Qbv hv.lb hv.lh k i hi
 .
  have:=hv.j;simp only[balRows,List.length_map,List.length_range];omega
theorem FrP.cols(h:FrP P b vb)(hv:FrV n js bs hs vb vh):
 Going (kE b) (MJ (2*js.length) 20 (kC b) (balCols js.length vb bs.length vh hs.length))/\MJ (2*js.length) 20 (kC b) (balCols js.length vb bs.length vh hs.length) 0 (balCols js.length vb bs.length vh hs.length) [] []/\
 ∀L S hh,MJ (2*js.length) 20 (kC b) (balCols js.length vb bs.length vh hs.length) (2*js.length) L S hh->(Ech 0 (2*js.length) S hh/\∀x,Null (2*js.length) (balCols js.length vb bs.length vh hs.length) x↔Null (2*js.length) S x)/\clnFits (kW b) S hh/\∀v,v∈ cln S hh->∀i,Fits (v i) (kC b):=by
 refine Qdf h.pos h.le (fun r hr j=>?_) (fun r hr i hi=>?_) (.inr ?_)
 .
  obtain⟨k,_,rfl⟩:=List.mem_map.1 hr
  show Wh P b (if j<2*js.length then balM vb bs.length vh j k else 0)
  split
  . exact h.at j k
  . exact Wh.zero _ _
 . obtain⟨k,_,rfl⟩:=List.mem_map.1 hr
   exact if_neg (by omega)
 . have:=hv.j
   omega
end
end Go.Proofs.YtjgofdclmcpopaaGreatDoor
