/- package rows: rows of noughts. -/
import Derived.Test.YtbbkamnfjejceaaGreatDoorR34RowsA
namespace Go.Proofs.YtbbkamnfjejceaaGreatDoor
open Go.RowKit
set_option linter.unusedVariables false
set_option linter.unusedSimpArgs false
structure MR where
 a:Option Addr
 cap:Nat
 ts:List FE
def MR.cells(r:MR):List Value:=[.slice r.a r.ts.length r.cap]
def MR.q(r:MR)(c:Nat):Rat:=(r.ts.map (·.q)).getD c 0
theorem MR.q_at{r:MR}{c:Nat}{e:FE}(h:r.ts[c]?=some e):r.q c=e.q:=by
 unfold MR.q;simp[List.getD,h]
structure QMat (w:World) (a:Option Addr) (cap wide:Nat) (rs:List MR):Prop where
 row:ARow MR.cells w a cap rs
 rs:∀r,r∈ rs→QRow w r.a r.cap r.ts∧r.ts.length=wide
theorem QMat.below{w w':World}{a:Option Addr}{cap wide:Nat}{rs:List MR}(h:QMat w a cap wide rs)(hb:Below w.heap.size w w'):QMat w' a cap wide rs:=
 ⟨h.row.below hb,fun t ht=>⟨(h.rs t ht).1.below hb,(h.rs t ht).2⟩⟩
theorem QMat.at{w:World}{a:Option Addr}{cap wide:Nat}{rs:List MR}(h:QMat w a cap wide rs){i:Nat}{r:MR}(hi:rs[i]?=some r):
 ∃b off,a=some ⟨b,off,none⟩∧b<w.heap.size∧w.cell? ⟨b,off+i,none⟩=some (.slice r.a r.ts.length r.cap):=by
 obtain⟨b,off,h1,h2,h3⟩:=h.row.at (sz:=1) (fun _=>rfl) (by decide) hi;refine⟨b,off,h1,h2,?_⟩;have:=h3 0 _ rfl;rw[Nat.mul_one] at this;exact this
theorem QMat.get{w:World}{a:Option Addr}{cap wide:Nat}{rs:List MR}(h:QMat w a cap wide rs){i:Nat}{r:MR}(hi:rs[i]?=some r):QRow w r.a r.cap r.ts∧r.ts.length=wide:=h.rs r (List.mem_of_getElem? hi)
def Picks(rs:List MR)(c:Nat)(v:Int):Prop:=
 (v= -1∧∀r∈ rs,r.q c=0)∨∃j r,rs[j]?=some r∧v=(j:Nat)∧r.q c≠0
theorem Picks.skip{rs:List MR}{c k:Nat}{v:Int}{r:MR}(h:Picks (rs.take k) c v)(hr:rs[k]?=some r)(h0:r.q c=0):Picks (rs.take (k+1)) c v:=by
 rw[List.take_add_one,hr];rcases h with ⟨h1,h2⟩|⟨j,s,h1,h2,h3⟩
 ·
  refine .inl ⟨h1,fun x hx=>?_⟩;rcases List.mem_append.1 hx with hx|hx
  · exact h2 x hx
  · obtain rfl:x=r:=by simpa using hx
    exact h0
 · exact .inr ⟨j,s,by rw[List.getElem?_append_left (List.getElem?_eq_some_iff.1 h1).1];exact h1,h2,h3⟩
theorem Picks.keep{rs:List MR}{c k j:Nat}{r:MR}(h:Picks (rs.take k) c (j:Nat))(hr:rs[k]?=some r):Picks (rs.take (k+1)) c (j:Nat):=by
 rw[List.take_add_one,hr];rcases h with ⟨h1,h2⟩|⟨i,s,h1,h2,h3⟩
 · omega
 · exact .inr ⟨i,s,by rw[List.getElem?_append_left (List.getElem?_eq_some_iff.1 h1).1];exact h1,h2,h3⟩
theorem Picks.this{rs:List MR}{c k:Nat}{r:MR}(hr:rs[k]?=some r)(h0:r.q c≠0):Picks (rs.take (k+1)) c (k:Nat):=
 .inr ⟨k,r,by rw[List.getElem?_take_of_lt (Nat.lt_succ_self k)];exact hr,rfl,h0⟩
set_option maxRecDepth 100000 in
set_option maxHeartbeats 4000000 in
theorem Qqg(a:Option Addr)(cap wide c:Nat)(rs:List MR)(w:World)(h:QMat w a cap wide rs)(hl:rs.length≤1000)(hw:wide≤1000)(hc:c<wide):
 Calls Tryz.prog 178 #[.slice a rs.length cap,.int .i64 c] w fun e w'=>(∃v,e=.returned (.int .i64 v)∧Picks rs c v)∧Below w.heap.size w w':=by
 have HH:=Hi h;clear h;go_enter Tryz.func178,Tryz.ntmps178;go_wp2_with fail;go_loopw [5,6,12] (fun u f i wr=>∃(k m:Nat) (v:Int),k≤rs.length∧i=.int .i64 k∧u=.int .i64 v∧f=.int .i64 m∧m≤1000∧Picks (rs.take k) c v∧Below w.heap.size w wr) (fun _ _ i _=>rs.length - (intOf i).toNat)
 case atStart=>exact⟨0,0,-1,by omega,rfl,rfl,rfl,by omega,.inl ⟨rfl,fun r hr=>by simp at hr⟩,Below.refl _ _⟩
 case round=>
  obtain⟨k,m,v,hk,rfl,rfl,rfl,hm,hp,hb⟩:=hrel;have HB:=Hi hb;have HP:=Hi hp;clear hb hp;by_cases hlt:k<rs.length
  ·
   obtain⟨r,hr⟩:∃r,rs[k]?=some r:=⟨rs[k],List.getElem?_eq_getElem hlt⟩;obtain⟨fb,off,rfl,hfb,d⟩:=(HH.out.below HB.out).at hr;obtain⟨hq,hrw⟩:=(HH.out.below HB.out).get hr;obtain⟨e,he⟩:∃e,r.ts[c]?=some e:=⟨r.ts[c],List.getElem?_eq_getElem (by omega)⟩;obtain⟨rb,ro,hra,hrb,d0,d1,d2⟩:=hq.at he;obtain⟨hv,_,_⟩:=hq.get he;have HQ:=Hi hq;have HR:=Hi hr;have HE:=Hi (MR.q_at he);have HV:=Hi hv;have q1:((k:Int)<(rs.length:Int)):=by omega
   have q2:((c:Int)<(r.ts.length:Int)):=by omega
   rw[hra] at d;have HRA:=Hi hra;clear hr hq he hv hra;go_wp2_with fail;go_fit (Qby HV.out);rintro e' w4 ⟨rfl,hb4⟩;have HB4:=Hi (HB.out.trans (hb4.mono HB.out.size));have HQ4:=Hi (HQ.out.below hb4);clear hb4 d0 d1 d2 d;by_cases h0:e.q=0
   ·
    rw[decide_eq_true h0];have HZ:Hid (r.q c=0):=Hi (HE.out.trans h0);clear h0;go_wp2;go_roundw
    case measure=>simp[intOf];omega
    case rel=>exact⟨k+1,m,v,by omega,by go_num,rfl,rfl,hm,HP.out.skip HR.out HZ.out,HB4.out⟩
   ·
    rw[decide_eq_false h0];have HZ:Hid (r.q c≠0):=Hi (fun hc=>h0 (HE.out.symm.trans hc));have hf:=Qi0 r.ts;clear h0;go_wp2_with fail;have HF:=Hi (Qqf r.a r.cap r.ts w4 HQ4.out (by omega));rw[HRA.out,hrw] at HF;obtain⟨g,hg⟩:∃g,filledOf r.ts=g:=⟨_,rfl⟩;rw[hg] at HF hf;clear hg;go_fit HF.out;rintro e' w5 ⟨rfl,hb5⟩;have HB5:=Hi (HB4.out.trans (hb5.mono HB4.out.size));clear hb5;have hg:g≤1000:=by omega
    by_cases hv:v<0
    ·
     clear HP;go_wp2;go_roundw
     case measure=>simp[intOf];omega
     case rel=>exact⟨k+1,g,k,by omega,by go_num,rfl,rfl,hg,Picks.this HR.out HZ.out,HB5.out⟩
    ·
     obtain⟨j,rfl⟩:∃j:Nat,v=j:=⟨v.toNat,by omega⟩;clear hv;by_cases hgm:(g:Int)<(m:Int)
     ·
      go_wp2;go_roundw
      case measure=>simp[intOf];omega
      case rel=>exact⟨k+1,g,k,by omega,by go_num,rfl,rfl,hg,Picks.this HR.out HZ.out,HB5.out⟩
     ·
      go_wp2;go_roundw
      case measure=>simp[intOf];omega
      case rel=>exact⟨k+1,m,j,by omega,by go_num,rfl,rfl,hm,HP.out.keep HR.out,HB5.out⟩
  ·
   have hk':k=rs.length:=by omega
   subst hk';have HP':Hid (Picks rs c v):=Hi (by have:=HP.out;rw[List.take_length] at this;exact this);go_wp2;go_ret;exact⟨⟨v,rfl,HP'.out⟩,HB.out⟩
def FE.zero:FE:=⟨.bool false,.slice none 0 0,.slice none 0 0,0,1⟩
structure QBlk (w:World) (g:Nat) (ts:List FE):Prop where
 blk:SB w g 77 (ts.flatMap FE.cells).toArray
 ts:∀t,t∈ ts→FracV w (.agg #[t.x,t.y,t.z]) t.q∧Fits t.q t.k∧0<t.k
theorem QBlk.row{w:World}{g:Nat}{ts:List FE}(h:QBlk w g ts):QRow w (some ⟨g,0,none⟩) ts.length ts:=⟨h.blk.arow rfl (Nat.le_refl _),h.ts⟩
theorem QBlk.below{w w':World}{g:Nat}{ts:List FE}(h:QBlk w g ts)(hb:Below w.heap.size w w'):QBlk w' g ts:=⟨h.blk.below hb h.blk.lt,fun t ht=>⟨(h.ts t ht).1.below hb,(h.ts t ht).2⟩⟩
theorem QBlk.no64{w:World}{g:Nat}{ts:List FE}(h:QBlk w g ts):NoU64 (ts.flatMap FE.cells).toArray:=by
 refine Qgo fun v hv n=>?_
 obtain⟨t,ht,hv⟩:=List.mem_flatMap.1 hv;obtain⟨h1,h2,h3⟩:=(h.ts t ht).1.no64 n;simp[FE.cells] at hv;rcases hv with rfl|rfl|rfl
 · exact h1
 · exact h2
 · exact h3
theorem Qi1:∀(ts:List FE) (k:Nat) (e:FE),k<ts.length→(ts.set k e).flatMap FE.cells=(((ts.flatMap FE.cells).set (k*3) e.x).set (k*3+1) e.y).set (k*3+2) e.z
 | [],k,e,h=>by simp at h
 |t :: l,0,e,_=>by simp[FE.cells]
 |t :: l,k+1,e,h=>by
  have ih:=Qi1 l k e (by simpa using h);rw[List.set_cons_succ,List.flatMap_cons,ih,List.flatMap_cons];simp only[FE.cells,List.cons_append,List.nil_append];rw[show (k+1)*3=k*3+1+1+1 by omega];simp only[List.set_cons_succ,Nat.add_assoc]
theorem QBlk.set{w:World}{g:Nat}{ts:List FE}(h:QBlk w g ts){k:Nat}{e:FE}(hk:k<ts.length)(he:FracV w (.agg #[e.x,e.y,e.z]) e.q∧Fits e.q e.k∧0<e.k):
 QBlk (((w.setCell ⟨g,k*3,none⟩ e.x).setCell ⟨g,k*3+1,none⟩ e.y).setCell ⟨g,k*3+2,none⟩ e.z) g (ts.set k e):=by
 have ho:Only g w (((w.setCell ⟨g,k*3,none⟩ e.x).setCell ⟨g,k*3+1,none⟩ e.y).setCell ⟨g,k*3+2,none⟩ e.z):=(((Only.refl g w).setCell _ _).setCell _ _).setCell _ _;refine⟨?_,fun t ht=>?_⟩
 ·
  have:=((h.blk.set (k*3) e.x).set (k*3+1) e.y).set (k*3+2) e.z;rw[Qi1 ts k e hk]
  simpa using this
 ·
  rcases List.mem_or_eq_of_mem_set ht with ht|rfl
  · exact⟨(h.ts t ht).1.only ho h.blk h.no64,(h.ts t ht).2⟩
  · exact⟨he.1.only ho h.blk h.no64,he.2⟩
theorem QBlk.new(w:World)(n:Nat)(C:Array Value)(hC:C=((List.replicate n FE.zero).flatMap FE.cells).toArray):QBlk (w.alloc (.cells C 77)) w.heap.size (List.replicate n FE.zero):=by
 subst hC;refine⟨SB.new _ _ _,fun t ht=>?_⟩;obtain⟨_,rfl⟩:=List.mem_replicate.1 ht;exact⟨FracV.zero _,Fits.zero,by decide⟩
theorem Qqh(n:Nat):madeCells (Value.cells (.agg #[.bool false,.slice none 0 0,.slice none 0 0])) (n*3)=((List.replicate n FE.zero).flatMap FE.cells).toArray:=by
 apply Array.ext';apply List.ext_getElem?;intro i;by_cases hi:i<n*3
 ·
  have h1:(List.replicate n FE.zero)[i / 3]?=some FE.zero:=by rw[List.getElem?_replicate,if_pos (by omega)]
  have h3:i % 3=0∨i % 3=1∨i % 3=2:=by omega
  have e0:Value.cells (.agg #[.bool false,.slice none 0 0,.slice none 0 0])=#[.bool false,.slice none 0 0,.slice none 0 0]:=by rfl
  have h4:i / 3*3+i % 3=i:=by omega
  have hm:(madeCells (Value.cells (.agg #[.bool false,.slice none 0 0,.slice none 0 0])) (n*3)).toList[i]?=some ((#[Value.bool false,.slice none 0 0,.slice none 0 0]:Array Value)[i % 3]!):=by
   rw[e0];simp[madeCells,hi]
  rw[hm];have hf:∀u,(FE.cells FE.zero)[i % 3]?=some u→((List.replicate n FE.zero).flatMap FE.cells)[i]?=some u:=fun u hu=>by
   have:=Qcc (sz:=3) (fun _=>rfl) _ _ _ _ _ h1 hu;rw[h4] at this;exact this
  simp only[List.toList_toArray];rcases h3 with h3|h3|h3
  all_goals
   rw[h3] at hf ⊢;exact(hf _ rfl).symm
 ·
  have h1:((List.replicate n FE.zero).flatMap FE.cells).length=n*3:=by rw[Qa9 (sz:=3) (fun _=>rfl)];simp
  have h2:=size_madeCells (Value.cells (.agg #[.bool false,.slice none 0 0,.slice none 0 0])) (n*3);rw[List.getElem?_eq_none (by rw[Array.length_toList,h2];omega),List.getElem?_eq_none (by simp only[List.toList_toArray];rw[h1];omega)]
theorem Qdw:(Tryz.prog.info? 77).map (fun i=>(i.zero,i.size,i.bytes))=some (some (.agg #[.bool false,.slice none 0 0,.slice none 0 0]),3,56):=by kernel_rfl
theorem Qcq(n:Nat)(hn:n≤1048576)(w:World):(Instr.makeSlice 167 (.int .i64 n) (.int .i64 n)).run Tryz.prog w=.ok (.slice (some ⟨w.heap.size,0,none⟩) n n) (w.alloc (.cells ((List.replicate n FE.zero).flatMap FE.cells).toArray 77)):=by
 obtain⟨i,hi,h⟩:=Option.map_eq_some_iff.1 Qdw;simp only[Prod.mk.injEq] at h;obtain⟨hz,hs,hb⟩:=h;have:=run_make w 167 77 i _ Tryz.underlying167 hi hz .i64 .i64 n n (by omega) (by omega) (by rw[hb];omega) (by omega);rw[Int.toNat_natCast,hs,Qqh] at this;exact this
def Made(f:Nat→Rat→Rat)(B:Nat)(ts us:List FE)(k:Nat):Prop:=
 us.length=ts.length∧∀i e,i<k→ts[i]?=some e→∃u,us[i]?=some u∧u.q=f i e.q∧u.k≤B
theorem Made.start(f:Nat→Rat→Rat)(B:Nat)(ts:List FE):Made f B ts (List.replicate ts.length FE.zero) 0:=⟨by simp,fun i e hi=>by omega⟩
theorem Made.step{f:Nat→Rat→Rat}{B:Nat}{ts us:List FE}{k:Nat}{e u:FE}(h:Made f B ts us k)(he:ts[k]?=some e)(hu:u.q=f k e.q)(hB:u.k≤B):Made f B ts (us.set k u) (k+1):=by
 have hk:=(List.getElem?_eq_some_iff.1 he).1;refine⟨by rw[List.length_set];exact h.1,fun i x hi hx=>?_⟩;rcases Nat.lt_or_ge i k with hlt|hge
 · obtain⟨y,h1,h2⟩:=h.2 i x hlt hx
   exact⟨y,by rw[List.getElem?_set_ne (by omega)];exact h1,h2⟩
 ·
  obtain rfl:i=k:=by omega
  obtain rfl:=Option.some.inj (he.symm.trans hx);exact⟨u,by rw[List.getElem?_set_self (by rw[h.1];exact hk)],hu,hB⟩
set_option maxRecDepth 100000 in
set_option maxHeartbeats 4000000 in
theorem Qqi(a:Option Addr)(cap B j:Nat)(ts:List FE)(b1 b2 b3:Value)(q:Rat)(w:World)(h:QRow w a cap ts)(hl:ts.length≤1000)(hv:FracV w (.agg #[b1,b2,b3]) q)(hq:Fits q j)(hj:0<j)(hB:∀t∈ ts,t.k+j≤B)(hBB:B<68719476000):
 Calls Tryz.prog 215 #[.slice a ts.length cap,.agg #[b1,b2,b3]] w fun e w'=>(∃g us,e=.returned (.slice (some ⟨g,0,none⟩) ts.length ts.length)∧w.heap.size≤g∧QBlk w' g us∧Made (fun _ x=>x / q) B ts us ts.length)∧Below w.heap.size w w':=by
 have HH:=Hi h;have HV:=Hi hv;have HF:=Hi hq;have HKB:=Hi hB;have hmk:=fun w=>Qcq ts.length (by omega) w
 obtain⟨MC,hMC⟩:∃MC,((List.replicate ts.length FE.zero).flatMap FE.cells).toArray=MC:=⟨_,rfl⟩;rw[hMC] at hmk;have HMC:=Hi hMC.symm;clear h hv hq hB hMC;go_enter Tryz.func215,Tryz.ntmps215;go_wp2_with fail;clear hmk;obtain⟨g,hg⟩:∃g,w.heap.size+1=g:=⟨_,rfl⟩;have hgw:w.heap.size<g:=by omega
 obtain⟨W,hW⟩:∃W,(w.alloc (.cells #[b1,b2,b3] 77)).alloc (.cells MC 77)=W:=⟨_,rfl⟩;have HB0:Hid (Below w.heap.size w W):=Hi (by rw[←hW];exact Below.new2 w _ _);have HS0:Hid (SB W w.heap.size 77 #[b1,b2,b3]):=Hi (by rw[←hW];exact(SB.new w _ _).alloc _);have HQ0:Hid (QBlk W g (List.replicate ts.length FE.zero)):=Hi (by rw[←hW,←hg];have:=QBlk.new (w.alloc (.cells #[b1,b2,b3] 77)) ts.length MC HMC.out;simpa using this)
 try rw[hW]
 try rw[hg]
 clear hW hg;go_loopw [12] (fun i wr=>∃(k:Nat) (us:List FE),k≤ts.length∧i=.int .i64 k∧Made (fun _ x=>x / q) B ts us k∧QBlk wr g us∧SB wr w.heap.size 77 #[b1,b2,b3]∧Below w.heap.size w wr) (fun i _=>ts.length - (intOf i).toNat)
 case atStart=>exact⟨0,_,by omega,rfl,Made.start _ _ _,HQ0.out,HS0.out,HB0.out⟩
 case round=>
  obtain⟨k,us,hk,rfl,hm,hqb,hs,hb⟩:=hrel;have HB:=Hi hb;have HM:=Hi hm;have HQ:=Hi hqb;have HS:=Hi hs;have hul:=hm.1;have hgl:=hqb.blk.lt;clear hb hm hqb hs;by_cases hlt:k<ts.length
  ·
   obtain⟨e,he⟩:∃e,ts[k]?=some e:=⟨ts[k],List.getElem?_eq_getElem hlt⟩;obtain⟨fb,off,rfl,hfw,_⟩:=HH.out.at he;obtain⟨fb',off',hfe,hfb,d0,d1,d2⟩:=(HH.out.below HB.out).at he;cases hfe;have n1:g≠fb:=by omega
   have n2:g≠w.heap.size:=by omega
   obtain⟨hx,hxf,hxk⟩:=(HH.out.below HB.out).get he;have hkj:=HKB.out e (List.mem_of_getElem? he);obtain⟨y0,hy0⟩:∃y0,us[k]?=some y0:=⟨us[k],List.getElem?_eq_getElem (by omega)⟩;have HE:=Hi he;have HX:=Hi hx;have HXF:=Hi hxf;have HY:=Hi (HV.out.below HB.out);have k0:wr.cell? ⟨w.heap.size,0,none⟩=some b1:=HS.out.cell 0;have k1:wr.cell? ⟨w.heap.size,1,none⟩=some b2:=HS.out.cell 1;have k2:wr.cell? ⟨w.heap.size,2,none⟩=some b3:=HS.out.cell 2;have q1:((k:Int)<(ts.length:Int)):=by omega
   have HY0:=Hi hy0;have D0:=Hi d0;have D1:=Hi d1;have D2:=Hi d2;clear he hx hxf hy0;go_wp2_with fail;go_region_held3 (fun v=>v.cell? ⟨fb,off+k*3,none⟩=some e.x∧v.cell? ⟨fb,off+k*3+1,none⟩=some e.y∧v.cell? ⟨fb,off+k*3+2,none⟩=some e.z∧v.cell? ⟨w.heap.size,0,none⟩=some b1∧v.cell? ⟨w.heap.size,1,none⟩=some b2∧v.cell? ⟨w.heap.size,2,none⟩=some b3) ((first|(simp [*];done)|go_keep)) (first
    |(
     go_at_call_of 91 e.x;apply Calls.mono
     first
      |exact Qcd HX.out HY.out HXF.out HF.out (by omega)
      |exact Qcd (HX.out.below (Below.refl _ _).drew) (HY.out.below (Below.refl _ _).drew) HXF.out HF.out (by omega)
     rintro e' w5 ⟨⟨v5,rfl,hv5⟩,hb5⟩;obtain⟨n5,a5,l5,c5,m5,o5,p5,rfl,hv5⟩:=hv5
     first
      |have HB5:Hid (Below wr.heap.size wr w5):=Hi hb5
      |have HB5:Hid (Below wr.heap.size wr w5):=Hi ((Below.refl _ _).drew.trans hb5)
     have HV5:Hid (FracV w5 (.agg #[.bool n5,.slice a5 l5 c5,.slice m5 o5 p5]) (e.q / q)):=Hi ⟨n5,a5,l5,c5,m5,o5,p5,rfl,hv5⟩;clear hv5 hb5;have HQ5:=Hi (HQ.out.below HB5.out);have v0:=(HB5.out.cell (p:=⟨fb,off+k*3,none⟩) hfb).trans D0.out;have v1:=(HB5.out.cell (p:=⟨fb,off+k*3+1,none⟩) hfb).trans D1.out;have v2:=(HB5.out.cell (p:=⟨fb,off+k*3+2,none⟩) hfb).trans D2.out;have HS5:=Hi (HS.out.below HB5.out HS.out.lt);have u0:w5.cell? ⟨w.heap.size,0,none⟩=some b1:=HS5.out.cell 0;have u1:w5.cell? ⟨w.heap.size,1,none⟩=some b2:=HS5.out.cell 1;have u2:w5.cell? ⟨w.heap.size,2,none⟩=some b3:=HS5.out.cell 2;have f0:=HQ5.out.blk.free (k*3);have f1:=HQ5.out.blk.free (k*3+1);have f2:=HQ5.out.blk.free (k*3+2);obtain⟨gb,goff,hge,_,t0,t1,t2⟩:=HQ5.out.row.at HY0.out;cases hge;simp only[Nat.zero_add] at t0 t1 t2
     skip))
   all_goals
    go_wp2_with fail;have HN:=Hi (HQ5.out.set (k:=k) (e:=⟨.bool n5,.slice a5 l5 c5,.slice m5 o5 p5,e.q / q,e.k+j⟩) (by omega) ⟨HV5.out,HXF.out.div HF.out hxk hj,Nat.lt_add_right j hxk⟩);have HS6:=Hi (((HS5.out.other n2.symm (k*3) (.bool n5)).other n2.symm (k*3+1) (.slice a5 l5 c5)).other n2.symm (k*3+2) (.slice m5 o5 p5));have HB6:=Hi ((((HB.out.trans (HB5.out.mono HB.out.size)).setCell (p:=⟨g,k*3,none⟩) (Nat.le_of_lt hgw) (.bool n5)).setCell (p:=⟨g,k*3+1,none⟩) (Nat.le_of_lt hgw) (.slice a5 l5 c5)).setCell (p:=⟨g,k*3+2,none⟩) (Nat.le_of_lt hgw) (.slice m5 o5 p5));refine⟨⟨k+1,_,by omega,by go_num,HM.out.step HE.out rfl hkj,HN.out,HS6.out,HB6.out⟩,?_⟩;simp[intOf];omega
  ·
   have hk':k=ts.length:=by omega
   subst hk';go_wp2;go_ret;exact⟨⟨g,us,rfl,by omega,HQ.out,HM.out⟩,HB.out⟩
def qAt(ss:List FE)(i:Nat):Rat:=(ss.map (·.q)).getD i 0
theorem Qqj{ss:List FE}{i:Nat}{e:FE}(h:ss[i]?=some e):qAt ss i=e.q:=by
 unfold qAt;simp[List.getD,h]
set_option maxRecDepth 100000 in
set_option maxHeartbeats 4000000 in
theorem Qfn(a a':Option Addr)(cap cap' B j:Nat)(ts ss:List FE)(b1 b2 b3:Value)(q:Rat)(w:World)(h:QRow w a cap ts)(h':QRow w a' cap' ss)(hss:ss.length=ts.length)(hl:ts.length≤1000)(hv:FracV w (.agg #[b1,b2,b3]) q)(hq:Fits q j)(hj:0<j)(hB:∀t∈ ts,∀s∈ ss,t.k+s.k+j+1≤B)(hBB:B<68719476000):
 Calls Tryz.prog 180 #[.slice a ts.length cap,.slice a' ts.length cap',.agg #[b1,b2,b3]] w fun e w'=>(∃g us,e=.returned (.slice (some ⟨g,0,none⟩) ts.length ts.length)∧w.heap.size≤g∧QBlk w' g us∧Made (fun i x=>x - qAt ss i*q) B ts us ts.length)∧Below w.heap.size w w':=by
 have HH:=Hi h;have HG:=Hi h';have HV:=Hi hv;have HF:=Hi hq;have HKB:=Hi hB;have hmk:=fun w=>Qcq ts.length (by omega) w
 obtain⟨MC,hMC⟩:∃MC,((List.replicate ts.length FE.zero).flatMap FE.cells).toArray=MC:=⟨_,rfl⟩;rw[hMC] at hmk;have HMC:=Hi hMC.symm;clear h h' hv hq hB hMC;go_enter Tryz.func180,Tryz.ntmps180;go_wp2_with fail;clear hmk;obtain⟨g,hg⟩:∃g,w.heap.size+1=g:=⟨_,rfl⟩;have hgw:w.heap.size<g:=by omega
 obtain⟨W,hW⟩:∃W,(w.alloc (.cells #[b1,b2,b3] 77)).alloc (.cells MC 77)=W:=⟨_,rfl⟩;have HB0:Hid (Below w.heap.size w W):=Hi (by rw[←hW];exact Below.new2 w _ _);have HS0:Hid (SB W w.heap.size 77 #[b1,b2,b3]):=Hi (by rw[←hW];exact(SB.new w _ _).alloc _);have HQ0:Hid (QBlk W g (List.replicate ts.length FE.zero)):=Hi (by rw[←hW,←hg];have:=QBlk.new (w.alloc (.cells #[b1,b2,b3] 77)) ts.length MC HMC.out;simpa using this)
 try rw[hW]
 try rw[hg]
 clear hW hg;go_loopw [14] (fun i wr=>∃(k:Nat) (us:List FE),k≤ts.length∧i=.int .i64 k∧Made (fun i x=>x - qAt ss i*q) B ts us k∧QBlk wr g us∧SB wr w.heap.size 77 #[b1,b2,b3]∧Below w.heap.size w wr) (fun i _=>ts.length - (intOf i).toNat)
 case atStart=>exact⟨0,_,by omega,rfl,Made.start _ _ _,HQ0.out,HS0.out,HB0.out⟩
 case round=>
  obtain⟨k,us,hk,rfl,hm,hqb,hs,hb⟩:=hrel;have HB:=Hi hb;have HM:=Hi hm;have HQ:=Hi hqb;have HS:=Hi hs;have hul:=hm.1;have hgl:=hqb.blk.lt;clear hb hm hqb hs;by_cases hlt:k<ts.length
  ·
   obtain⟨e,he⟩:∃e,ts[k]?=some e:=⟨ts[k],List.getElem?_eq_getElem hlt⟩;obtain⟨s,hs⟩:∃s,ss[k]?=some s:=⟨ss[k],List.getElem?_eq_getElem (by omega)⟩;obtain⟨fb,off,rfl,hfw,D0,D1,D2⟩:=HH.out.at he;obtain⟨sb,soff,rfl,hsw,E0,E1,E2⟩:=HG.out.at hs;obtain⟨hx,hxf,hxk⟩:=HH.out.get he;obtain⟨hy,hyf,hyk⟩:=HG.out.get hs;have hkj:=HKB.out e (List.mem_of_getElem? he) s (List.mem_of_getElem? hs);obtain⟨y0,hy0⟩:∃y0,us[k]?=some y0:=⟨us[k],List.getElem?_eq_getElem (by omega)⟩;have n1:g≠fb:=by omega
   have n2:g≠w.heap.size:=by omega
   have n3:g≠sb:=by omega
   have HE:=Hi he;have HSQ:=Hi (Qqj hs);have HX:=Hi hx;have HXF:=Hi hxf;have HY:=Hi hy;have HYF:=Hi hyf;have HD0:=Hi D0;have HD1:=Hi D1;have HD2:=Hi D2;have HE0:=Hi E0;have HE1:=Hi E1;have HE2:=Hi E2;obtain⟨o1,o2,o3⟩:=hx.one;have st0:=Qap Tryz.prog o1;have st1:=Qap Tryz.prog o2;have st2:=Qap Tryz.prog o3;have d0:=(HB.out.cell (p:=⟨fb,off+k*3,none⟩) hfw).trans D0;have d1:=(HB.out.cell (p:=⟨fb,off+k*3+1,none⟩) hfw).trans D1;have d2:=(HB.out.cell (p:=⟨fb,off+k*3+2,none⟩) hfw).trans D2;have q1:((k:Int)<(ts.length:Int)):=by omega
   have f0:=HQ.out.blk.free (k*3);have f1:=HQ.out.blk.free (k*3+1);have f2:=HQ.out.blk.free (k*3+2);obtain⟨gb,goff,hge,_,t0,t1,t2⟩:=HQ.out.row.at hy0;cases hge;simp only[Nat.zero_add] at t0 t1 t2;obtain⟨W1,hW1⟩:∃W1,((wr.setCell ⟨g,k*3,none⟩ e.x).setCell ⟨g,k*3+1,none⟩ e.y).setCell ⟨g,k*3+2,none⟩ e.z=W1:=⟨_,rfl⟩;have HQ1:Hid (QBlk W1 g (us.set k e)):=Hi (by rw[←hW1];exact HQ.out.set (by omega) ⟨hx.below HB.out,hxf,hxk⟩);have HS1:Hid (SB W1 w.heap.size 77 #[b1,b2,b3]):=Hi (by rw[←hW1];exact((HS.out.other n2.symm _ _).other n2.symm _ _).other n2.symm _ _);have HB1:Hid (Below w.heap.size w W1):=Hi (by rw[←hW1];exact((HB.out.setCell (p:=⟨g,k*3,none⟩) (Nat.le_of_lt hgw) _).setCell (p:=⟨g,k*3+1,none⟩) (Nat.le_of_lt hgw) _).setCell (p:=⟨g,k*3+2,none⟩) (Nat.le_of_lt hgw) _);have s0:=(HB1.out.cell (p:=⟨sb,soff+k*3,none⟩) hsw).trans E0;have s1:=(HB1.out.cell (p:=⟨sb,soff+k*3+1,none⟩) hsw).trans E1
   have s2:=(HB1.out.cell (p:=⟨sb,soff+k*3+2,none⟩) hsw).trans E2;rw[←hW1] at s0 s1 s2;have HW1:=Hi hW1;clear he hs hx hxf hy hyf hy0 hW1 o1 o2 o3 D0 D1 D2 E0 E1 E2;go_wp2_with fail;rw[HW1.out];clear s0 s1 s2 d0 d1 d2 f0 f1 f2 t0 t1 t2 st0 st1 st2;go_fit (Qby (HY.out.below HB1.out));rintro e' w4 ⟨rfl,hb4⟩;have HB4:=Hi (HB1.out.trans (hb4.mono HB1.out.size));have HQ4:=Hi (HQ1.out.below hb4);have HS4:=Hi (HS1.out.below hb4 HS1.out.lt);clear hb4;by_cases h0:s.q=0
   ·
    rw[decide_eq_true h0];have HZ:Hid (e.q=e.q - qAt ss k*q):=Hi (by rw[HSQ.out,h0,Rat.zero_mul,Rat.sub_eq_add_neg,Rat.neg_zero,Rat.add_zero]);clear h0;go_wp2;go_roundw
    case rel=>exact⟨k+1,_,by omega,by go_num,HM.out.step HE.out HZ.out (by omega),HQ4.out,HS4.out,HB4.out⟩
    case measure=>simp[intOf];omega
   ·
    rw[decide_eq_false h0];clear h0;go_wp2_with fail;have x0:=(HB4.out.cell (p:=⟨fb,off+k*3,none⟩) hfw).trans HD0.out;have x1:=(HB4.out.cell (p:=⟨fb,off+k*3+1,none⟩) hfw).trans HD1.out;have x2:=(HB4.out.cell (p:=⟨fb,off+k*3+2,none⟩) hfw).trans HD2.out;have z0:=(HB4.out.cell (p:=⟨sb,soff+k*3,none⟩) hsw).trans HE0.out;have z1:=(HB4.out.cell (p:=⟨sb,soff+k*3+1,none⟩) hsw).trans HE1.out;have z2:=(HB4.out.cell (p:=⟨sb,soff+k*3+2,none⟩) hsw).trans HE2.out;have k0:w4.cell? ⟨w.heap.size,0,none⟩=some b1:=HS4.out.cell 0;have k1:w4.cell? ⟨w.heap.size,1,none⟩=some b2:=HS4.out.cell 1;have k2:w4.cell? ⟨w.heap.size,2,none⟩=some b3:=HS4.out.cell 2;have hkk:k<(us.set k e).length:=by rw[List.length_set];omega
    go_region_held3 (fun v=>v.cell? ⟨fb,off+k*3,none⟩=some e.x∧v.cell? ⟨fb,off+k*3+1,none⟩=some e.y∧v.cell? ⟨fb,off+k*3+2,none⟩=some e.z∧v.cell? ⟨sb,soff+k*3,none⟩=some s.x∧v.cell? ⟨sb,soff+k*3+1,none⟩=some s.y∧v.cell? ⟨sb,soff+k*3+2,none⟩=some s.z∧v.cell? ⟨w.heap.size,0,none⟩=some b1∧v.cell? ⟨w.heap.size,1,none⟩=some b2∧v.cell? ⟨w.heap.size,2,none⟩=some b3) ((first|(simp [*];done)|go_keep)) (first
     |(
      go_at_call 149;apply Calls.mono
      first
       |exact Qer (HY.out.below HB4.out) (HV.out.below HB4.out) HYF.out HF.out (by omega)
       |exact Qer (HY.out.below HB4.out.drew) (HV.out.below HB4.out.drew) HYF.out HF.out (by omega)
       |exact Qer (HY.out.below HB4.out.drew.drew) (HV.out.below HB4.out.drew.drew) HYF.out HF.out (by omega)
      rintro e5 w5 ⟨⟨v5,rfl,hv5⟩,hb5⟩;obtain⟨n5,a5,l5,c5,m5,o5,p5,rfl,hv5⟩:=hv5
      first
       |have HB45:Hid (Below w4.heap.size w4 w5):=Hi hb5
       |have HB45:Hid (Below w4.heap.size w4 w5):=Hi ((Below.refl _ _).drew.trans hb5)
       |have HB45:Hid (Below w4.heap.size w4 w5):=Hi ((Below.refl _ _).drew.drew.trans hb5)
      have HV5:Hid (FracV w5 (.agg #[.bool n5,.slice a5 l5 c5,.slice m5 o5 p5]) (s.q*q)):=Hi ⟨n5,a5,l5,c5,m5,o5,p5,rfl,hv5⟩;clear hv5 hb5;have HB5:=Hi (HB4.out.trans (HB45.out.mono HB4.out.size));have HQ5:=Hi (HQ4.out.below HB45.out);have HS5:=Hi (HS4.out.below HB45.out HS4.out.lt);have x0:=(HB5.out.cell (p:=⟨fb,off+k*3,none⟩) hfw).trans HD0.out;have x1:=(HB5.out.cell (p:=⟨fb,off+k*3+1,none⟩) hfw).trans HD1.out;have x2:=(HB5.out.cell (p:=⟨fb,off+k*3+2,none⟩) hfw).trans HD2.out;have z0:=(HB5.out.cell (p:=⟨sb,soff+k*3,none⟩) hsw).trans HE0.out;have z1:=(HB5.out.cell (p:=⟨sb,soff+k*3+1,none⟩) hsw).trans HE1.out;have z2:=(HB5.out.cell (p:=⟨sb,soff+k*3+2,none⟩) hsw).trans HE2.out;have k0:w5.cell? ⟨w.heap.size,0,none⟩=some b1:=HS5.out.cell 0;have k1:w5.cell? ⟨w.heap.size,1,none⟩=some b2:=HS5.out.cell 1;have k2:w5.cell? ⟨w.heap.size,2,none⟩=some b3:=HS5.out.cell 2
      skip)
     |(
      go_at_call 148;apply Calls.mono
      first
       |exact Qbb (HX.out.below HB5.out) HV5.out HXF.out (HYF.out.mul HF.out hyk) (by omega)
       |exact Qbb (HX.out.below HB5.out.drew) (HV5.out.below (Below.refl _ _).drew) HXF.out (HYF.out.mul HF.out hyk) (by omega)
       |exact Qbb (HX.out.below HB5.out.drew.drew) (HV5.out.below (Below.refl _ _).drew.drew) HXF.out (HYF.out.mul HF.out hyk) (by omega)
      rintro e6 w6 ⟨⟨v6,rfl,hv6⟩,hb6⟩;obtain⟨n6,a6,l6,c6,m6,o6,p6,rfl,hv6⟩:=hv6
      first
       |have HB56:Hid (Below w5.heap.size w5 w6):=Hi hb6
       |have HB56:Hid (Below w5.heap.size w5 w6):=Hi ((Below.refl _ _).drew.trans hb6)
       |have HB56:Hid (Below w5.heap.size w5 w6):=Hi ((Below.refl _ _).drew.drew.trans hb6)
      have HV6:Hid (FracV w6 (.agg #[.bool n6,.slice a6 l6 c6,.slice m6 o6 p6]) (e.q - s.q*q)):=Hi ⟨n6,a6,l6,c6,m6,o6,p6,rfl,hv6⟩;clear hv6 hb6;have HB6:=Hi (HB5.out.trans (HB56.out.mono HB5.out.size));have HQ6:=Hi (HQ5.out.below HB56.out);have HS6:=Hi (HS5.out.below HB56.out HS5.out.lt);have x0:=(HB6.out.cell (p:=⟨fb,off+k*3,none⟩) hfw).trans HD0.out;have x1:=(HB6.out.cell (p:=⟨fb,off+k*3+1,none⟩) hfw).trans HD1.out;have x2:=(HB6.out.cell (p:=⟨fb,off+k*3+2,none⟩) hfw).trans HD2.out;have z0:=(HB6.out.cell (p:=⟨sb,soff+k*3,none⟩) hsw).trans HE0.out;have z1:=(HB6.out.cell (p:=⟨sb,soff+k*3+1,none⟩) hsw).trans HE1.out;have z2:=(HB6.out.cell (p:=⟨sb,soff+k*3+2,none⟩) hsw).trans HE2.out;have k0:w6.cell? ⟨w.heap.size,0,none⟩=some b1:=HS6.out.cell 0;have k1:w6.cell? ⟨w.heap.size,1,none⟩=some b2:=HS6.out.cell 1;have k2:w6.cell? ⟨w.heap.size,2,none⟩=some b3:=HS6.out.cell 2
      have f0:=HQ6.out.blk.free (k*3);have f1:=HQ6.out.blk.free (k*3+1);have f2:=HQ6.out.blk.free (k*3+2);obtain⟨gb,goff,hge,_,t0,t1,t2⟩:=HQ6.out.row.at (i:=k) (e:=e) (List.getElem?_set_self (by omega));cases hge;simp only[Nat.zero_add] at t0 t1 t2
      skip))
    all_goals
     go_wp2_with fail;have HN:=Hi (HQ6.out.set (k:=k) (e:=⟨.bool n6,.slice a6 l6 c6,.slice m6 o6 p6,e.q - s.q*q,e.k+(s.k+j)+1⟩) hkk ⟨HV6.out,HXF.out.sub (HYF.out.mul HF.out hyk),Nat.succ_pos _⟩);have HS7:=Hi (((HS6.out.other n2.symm (k*3) (.bool n6)).other n2.symm (k*3+1) (.slice a6 l6 c6)).other n2.symm (k*3+2) (.slice m6 o6 p6));have HB7:=Hi (((HB6.out.setCell (p:=⟨g,k*3,none⟩) (Nat.le_of_lt hgw) (.bool n6)).setCell (p:=⟨g,k*3+1,none⟩) (Nat.le_of_lt hgw) (.slice a6 l6 c6)).setCell (p:=⟨g,k*3+2,none⟩) (Nat.le_of_lt hgw) (.slice m6 o6 p6));rw[List.set_set] at HN;refine⟨⟨k+1,_,by omega,by go_num,HM.out.step HE.out (by rw[HSQ.out]) (by show e.k+(s.k+j)+1≤B;omega),HN.out,HS7.out,HB7.out⟩,?_⟩;simp[intOf];omega
  ·
   have hk':k=ts.length:=by omega
   subst hk';go_wp2;go_ret;exact⟨⟨g,us,rfl,by omega,HQ.out,HM.out⟩,HB.out⟩
theorem mr_sl(rs:List MR):∀v∈ rs.flatMap MR.cells,∃a n c,v=Value.slice a n c:=by
 intro v hv;obtain⟨r,_,hv⟩:=List.mem_flatMap.1 hv;exact⟨_,_,_,by simpa [MR.cells] using hv⟩
theorem Qi2:∀(rs:List MR) (k:Nat) (r:MR),(rs.set k r).flatMap MR.cells=(rs.flatMap MR.cells).set k (.slice r.a r.ts.length r.cap)
 | [],k,r=>by simp
 |t :: l,0,r=>by simp[MR.cells]
 |t :: l,k+1,r=>by
  have ih:=Qi2 l k r;rw[List.set_cons_succ,List.flatMap_cons,ih,List.flatMap_cons];simp[MR.cells]
def MR.none:MR:=⟨.none,0,[]⟩
theorem Qqk(n:Nat):madeCells (Value.cells (.slice .none 0 0)) n=((List.replicate n MR.none).flatMap MR.cells).toArray:=by
 have e:Value.cells (.slice .none 0 0)=#[.slice .none 0 0]:=by rfl
 rw[e];apply Array.ext';rw[toList_madeCells_one]
 induction n with
 |zero=>rfl
 |succ n ih=>
  simp only[List.toList_toArray] at ih ⊢;rw[List.replicate_succ,List.replicate_succ,List.flatMap_cons,←ih];rfl
theorem Qcr:(Tryz.prog.info? 167).map (fun i=>(i.zero,i.size,i.bytes))=some (some (.slice .none 0 0),1,24):=by kernel_rfl
theorem Qi3(n:Nat)(hn:n≤1048576)(w:World):(Instr.makeSlice 133 (.int .i64 n) (.int .i64 n)).run Tryz.prog w=.ok (.slice (some ⟨w.heap.size,0,.none⟩) n n) (w.alloc (.cells ((List.replicate n MR.none).flatMap MR.cells).toArray 167)):=by
 obtain⟨i,hi,h⟩:=Option.map_eq_some_iff.1 Qcr;simp only[Prod.mk.injEq] at h;obtain⟨hz,hs,hb⟩:=h;have:=run_make w 133 167 i _ Tryz.underlying133 hi hz .i64 .i64 n n (by omega) (by omega) (by rw[hb];omega) (by omega);rw[Int.toNat_natCast,hs,Nat.mul_one,Qqk] at this;exact this
end Go.Proofs.YtbbkamnfjejceaaGreatDoor
