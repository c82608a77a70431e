/- package rows: rows of noughts. -/
import Derived.Test.YtfpcipgoedifaaaGreatDoorK28RefD
namespace Go.Proofs.YtfpcipgoedifaaaGreatDoor
open Go.RowKit
set_option linter.unusedVariables false
set_option linter.unusedSimpArgs false
theorem Qsl(a1 a2 a3:Option Addr)(c1 c2 c3:Nat)(js:List S2)(bs:List B6)(hs:List H3)(w:World)(hg:Glob w)(hf:FrRow w a1 a2 a3 c1 c2 c3 js bs hs)(hz:FrSized js bs hs):
 Calls Tryz.prog 5 #[.agg #[.slice a1 js.length c1,.slice a2 bs.length c2,.slice a3 hs.length c3]] w fun e w'=>∃c at_,e=.returned (.agg #[.int .i64 c,.int .i64 at_])/\FrameFault js bs hs c at_/\Below w.heap.size w w':=by
 by_cases hm:Many js.length bs.length hs.length
 · exact Qsh a1 a2 a3 c1 c2 c3 js bs hs w hg hf hz hm
 · exact Qsk a1 a2 a3 c1 c2 c3 js bs hs w hg hf hz hm
theorem SB.arow{α:Type}{c:α->List Value}{w:World}{g cap:Nat}{t:TypeId}{C:Array Value}{es:List α}(h:SB w g t C)(hc:C.toList=es.flatMap c)(hl:es.length<=cap):ARow c w (some ⟨g,0,none⟩) cap es:=by
 refine⟨hl,⟨fun j u hj=>⟨g,0,rfl,h.lt,?_⟩⟩⟩;rw[Nat.zero_add,h.cell j,<-Array.getElem?_toList,hc];exact hj
def FE.cells(t:FE):List Value:=[t.x,t.y,t.z]
structure QRow (w:World) (a:Option Addr) (cap:Nat) (ts:List FE):Prop where
 row:ARow FE.cells w a cap ts
 ts:∀t,t∈ ts->FracV w (.agg #[t.x,t.y,t.z]) t.q/\Fits t.q t.k/\0<t.k
theorem QRow.below{w w':World}{a:Option Addr}{cap:Nat}{ts:List FE}(h:QRow w a cap ts)(hb:Below w.heap.size w w'):QRow w' a cap ts:=
 ⟨h.row.below hb,fun t ht=>⟨(h.ts t ht).1.below hb,(h.ts t ht).2⟩⟩
theorem QRow.at{w:World}{a:Option Addr}{cap:Nat}{ts:List FE}(h:QRow w a cap ts){i:Nat}{e:FE}(hi:ts[i]?=some e):
 ∃b off,a=some ⟨b,off,none⟩/\b<w.heap.size/\w.cell? ⟨b,off+i*3,none⟩=some e.x/\w.cell? ⟨b,off+i*3+1,none⟩=some e.y/\w.cell? ⟨b,off+i*3+2,none⟩=some e.z:=by
 obtain⟨b,off,h1,h2,h3⟩:=h.row.at (sz:=3) (fun _=>rfl) (by decide) hi;exact⟨b,off,h1,h2,h3 0 _ rfl,h3 1 _ rfl,h3 2 _ rfl⟩
theorem QRow.get{w:World}{a:Option Addr}{cap:Nat}{ts:List FE}(h:QRow w a cap ts){i:Nat}{e:FE}(hi:ts[i]?=some e):FracV w (.agg #[e.x,e.y,e.z]) e.q/\Fits e.q e.k/\0<e.k:=h.ts e (mO hi)
def filledOf(ts:List FE):Nat:=ts.countP fun t=>!decide (t.q=0)
theorem Qtv{ts:List FE}{k:Nat}{e:FE}(h:ts[k]?=some e):filledOf (ts.take (k+1))=filledOf (ts.take k)+if e.q=0 then 0 else 1:=by
 unfold filledOf;rw[List.take_add_one,h,List.countP_append];by_cases h0:e.q=0<;>simp[h0]
theorem Qf9(ts:List FE):filledOf ts<=ts.length:=List.countP_le_length
set_option maxRecDepth 100000 in
set_option maxHeartbeats 4000000 in
theorem Qkw(a:Option Addr)(cap:Nat)(ts:List FE)(w:World)(h:QRow w a cap ts)(hl:ts.length<=1000):
 Calls Tryz.prog 113 #[.slice a ts.length cap] w fun e w'=>e=.returned (.int .i64 (filledOf ts:Nat))/\Below w.heap.size w w':=by
 have HH:=Hi h;clear h;go_enter Tryz.func113,Tryz.ntmps113;go_wp2_with fail;go_loopw [3,8] (fun n i wr=>∃k:Nat,k<=ts.length/\i=.int .i64 k/\n=.int .i64 (filledOf (ts.take k):Nat)/\Below w.heap.size w wr) (fun _ i _=>ts.length - (intOf i).toNat)
 case atStart=>exact⟨0,by omega,rfl,rfl,Below.refl _ _⟩
 case round=>
  obtain⟨k,hk,rfl,rfl,hb⟩:=hrel;have HB:=Hi hb;clear hb;by_cases hlt:k<ts.length
  ·
   obtain⟨f,hf⟩:∃f,ts[k]?=some f:=⟨ts[k],gE hlt⟩;obtain⟨fb,off,rfl,hfb,d0,d1,d2⟩:=(HH.out.below HB.out).at hf;obtain⟨hv,_,_⟩:=(HH.out.below HB.out).get hf;have HFK:=Hi (Qtv hf);have hn:filledOf (ts.take k)<=1000:=by
    have h1:=Qf9 (ts.take k);have h2:=List.length_take_le k ts;omega
   obtain⟨o1,o2,o3⟩:=hv.one;obtain⟨m,hm⟩:=nm (filledOf (ts.take k));rw[hm] at hn HFK ⊢;have HV:=Hi hv;have q1:((k:Int)<(ts.length:Int)):=by omega
   obtain⟨V,hV⟩:=nm (wr.alloc (.cells #[f.x,f.y,f.z] 103));have HBV:Hid (Below wr.heap.size wr V):=Hi (by rw[<-hV];exact(Below.refl _ _).alloc lZ _);have HW:=Hi hV;have s0:=Qaa Tryz.prog o1;have s1:=Qaa Tryz.prog o2;have s2:=Qaa Tryz.prog o3;clear hf hv hm hV o1 o2 o3;go_wp2_with fail;rw[HW.out];go_fit (Qbn (HV.out.below HBV.out));rintro e w4 ⟨rfl,hb4⟩;have HB4:=Hi (HB.out.trans ((HBV.out.trans (hb4.mono HBV.out.size)).mono HB.out.size));clear hb4 d0 d1 d2 s0 s1 s2;by_cases h0:f.q=0
   ·
    rw[decide_eq_true h0];rw[if_pos h0] at HFK;clear h0;go_wp2;go_roundw
    case rel=>exact⟨k+1,by omega,by go_num,by rw[HFK.out];rfl,HB4.out⟩
    case measure=>simp[intOf];omega
   ·
    rw[decide_eq_false h0];rw[if_neg h0] at HFK;clear h0;go_wp2;go_roundw
    case rel=>exact⟨k+1,by omega,by go_num,by rw[HFK.out];go_num,HB4.out⟩
    case measure=>simp[intOf];omega
  ·
   have hk':k=ts.length:=by omega
   subst hk';have HT:Hid (filledOf (ts.take ts.length)=filledOf ts):=Hi (by rw[List.take_length]);rw[HT.out];go_wp2;go_ret;exact⟨rfl,HB.out⟩
structure MR where
 a:Option Addr
 cap:Nat
 ts:List FE
def MR.cells(r:MR):List Value:=[.slice r.a r.ts.length r.cap]
def MR.q(r:MR)(c:Nat):Rat:=(r.ts.map (·.q)).getD c 0
theorem MR.q_at{r:MR}{c:Nat}{e:FE}(h:r.ts[c]?=some e):r.q c=e.q:=by
 unfold MR.q;simp[List.getD,h]
structure QMat (w:World) (a:Option Addr) (cap wide:Nat) (rs:List MR):Prop where
 row:ARow MR.cells w a cap rs
 rs:∀r,r∈ rs->QRow w r.a r.cap r.ts/\r.ts.length=wide
theorem QMat.below{w w':World}{a:Option Addr}{cap wide:Nat}{rs:List MR}(h:QMat w a cap wide rs)(hb:Below w.heap.size w w'):QMat w' a cap wide rs:=
 ⟨h.row.below hb,fun t ht=>⟨(h.rs t ht).1.below hb,(h.rs t ht).2⟩⟩
theorem QMat.at{w:World}{a:Option Addr}{cap wide:Nat}{rs:List MR}(h:QMat w a cap wide rs){i:Nat}{r:MR}(hi:rs[i]?=some r):
 ∃b off,a=some ⟨b,off,none⟩/\b<w.heap.size/\w.cell? ⟨b,off+i,none⟩=some (.slice r.a r.ts.length r.cap):=by
 obtain⟨b,off,h1,h2,h3⟩:=h.row.at (sz:=1) (fun _=>rfl) (by decide) hi;refine⟨b,off,h1,h2,?_⟩;have:=h3 0 _ rfl;rw[Nat.mul_one] at this;exact this
theorem QMat.get{w:World}{a:Option Addr}{cap wide:Nat}{rs:List MR}(h:QMat w a cap wide rs){i:Nat}{r:MR}(hi:rs[i]?=some r):QRow w r.a r.cap r.ts/\r.ts.length=wide:=h.rs r (mO hi)
def Picks(rs:List MR)(c:Nat)(v:Int):Prop:=
 (v= -1/\∀r∈ rs,r.q c=0)∨∃j r,rs[j]?=some r/\v=(j:Nat)/\r.q c≠0
theorem Picks.skip{rs:List MR}{c k:Nat}{v:Int}{r:MR}(h:Picks (rs.take k) c v)(hr:rs[k]?=some r)(h0:r.q c=0):Picks (rs.take (k+1)) c v:=by
 rw[List.take_add_one,hr];rcases h with ⟨h1,h2⟩|⟨j,s,h1,h2,h3⟩
 ·
  refine .inl ⟨h1,fun x hx=>?_⟩;rcases List.mem_append.1 hx with hx|hx
  · exact h2 x hx
  · obtain rfl:x=r:=by simpa using hx
    exact h0
 · exact .inr ⟨j,s,by rw[List.getElem?_append_left (gZ h1).1];exact h1,h2,h3⟩
theorem Picks.keep{rs:List MR}{c k j:Nat}{r:MR}(h:Picks (rs.take k) c (j:Nat))(hr:rs[k]?=some r):Picks (rs.take (k+1)) c (j:Nat):=by
 rw[List.take_add_one,hr];rcases h with ⟨h1,h2⟩|⟨i,s,h1,h2,h3⟩
 · omega
 · exact .inr ⟨i,s,by rw[List.getElem?_append_left (gZ h1).1];exact h1,h2,h3⟩
theorem Picks.this{rs:List MR}{c k:Nat}{r:MR}(hr:rs[k]?=some r)(h0:r.q c≠0):Picks (rs.take (k+1)) c (k:Nat):=
 .inr ⟨k,r,by rw[List.getElem?_take_of_lt (Nat.lt_succ_self k)];exact hr,rfl,h0⟩
set_option maxRecDepth 100000 in
set_option maxHeartbeats 4000000 in
theorem Qtw(a:Option Addr)(cap wide c:Nat)(rs:List MR)(w:World)(h:QMat w a cap wide rs)(hl:rs.length<=1000)(hw:wide<=1000)(hc:c<wide):
 Calls Tryz.prog 138 #[.slice a rs.length cap,.int .i64 c] w fun e w'=>(∃v,e=.returned (.int .i64 v)/\Picks rs c v)/\Below w.heap.size w w':=by
 have HH:=Hi h;clear h;go_enter Tryz.func138,Tryz.ntmps138;go_wp2_with fail;go_loopw [5,6,12] (fun u f i wr=>∃(k m:Nat) (v:Int),k<=rs.length/\i=.int .i64 k/\u=.int .i64 v/\f=.int .i64 m/\m<=1000/\Picks (rs.take k) c v/\Below w.heap.size w wr) (fun _ _ i _=>rs.length - (intOf i).toNat)
 case atStart=>exact⟨0,0,-1,by omega,rfl,rfl,rfl,by omega,.inl ⟨rfl,fun r hr=>by simp at hr⟩,Below.refl _ _⟩
 case round=>
  obtain⟨k,m,v,hk,rfl,rfl,rfl,hm,hp,hb⟩:=hrel;have HB:=Hi hb;have HP:=Hi hp;clear hb hp;by_cases hlt:k<rs.length
  ·
   obtain⟨r,hr⟩:∃r,rs[k]?=some r:=⟨rs[k],gE hlt⟩;obtain⟨fb,off,rfl,hfb,d⟩:=(HH.out.below HB.out).at hr;obtain⟨hq,hrw⟩:=(HH.out.below HB.out).get hr;obtain⟨e,he⟩:∃e,r.ts[c]?=some e:=⟨r.ts[c],gE (by omega)⟩;obtain⟨rb,ro,hra,hrb,d0,d1,d2⟩:=hq.at he;obtain⟨hv,_,_⟩:=hq.get he;have HQ:=Hi hq;have HR:=Hi hr;have HE:=Hi (MR.q_at he);have HV:=Hi hv;have q1:((k:Int)<(rs.length:Int)):=by omega
   have q2:((c:Int)<(r.ts.length:Int)):=by omega
   rw[hra] at d;have HRA:=Hi hra;clear hr hq he hv hra;go_wp2_with fail;go_fit (Qbn HV.out);rintro e' w4 ⟨rfl,hb4⟩;have HB4:=Hi (HB.out.trans (hb4.mono HB.out.size));have HQ4:=Hi (HQ.out.below hb4);clear hb4 d0 d1 d2 d;by_cases h0:e.q=0
   ·
    rw[decide_eq_true h0];have HZ:Hid (r.q c=0):=Hi (HE.out.trans h0);clear h0;go_wp2;go_roundw
    case measure=>simp[intOf];omega
    case rel=>exact⟨k+1,m,v,by omega,by go_num,rfl,rfl,hm,HP.out.skip HR.out HZ.out,HB4.out⟩
   ·
    rw[decide_eq_false h0];have HZ:Hid (r.q c≠0):=Hi (fun hc=>h0 (HE.out.symm.trans hc));have hf:=Qf9 r.ts;clear h0;go_wp2_with fail;have HF:=Hi (Qkw r.a r.cap r.ts w4 HQ4.out (by omega));rw[HRA.out,hrw] at HF;obtain⟨g,hg⟩:=nm (filledOf r.ts);rw[hg] at HF hf;clear hg;go_fit HF.out;rintro e' w5 ⟨rfl,hb5⟩;have HB5:=Hi (HB4.out.trans (hb5.mono HB4.out.size));clear hb5;have hg:g<=1000:=by omega
    by_cases hv:v<0
    ·
     clear HP;go_wp2;go_roundw
     case measure=>simp[intOf];omega
     case rel=>exact⟨k+1,g,k,by omega,by go_num,rfl,rfl,hg,Picks.this HR.out HZ.out,HB5.out⟩
    ·
     obtain⟨j,rfl⟩:∃j:Nat,v=j:=⟨v.toNat,by omega⟩;clear hv;by_cases hgm:(g:Int)<(m:Int)
     ·
      go_wp2;go_roundw
      case measure=>simp[intOf];omega
      case rel=>exact⟨k+1,g,k,by omega,by go_num,rfl,rfl,hg,Picks.this HR.out HZ.out,HB5.out⟩
     ·
      go_wp2;go_roundw
      case measure=>simp[intOf];omega
      case rel=>exact⟨k+1,m,j,by omega,by go_num,rfl,rfl,hm,HP.out.keep HR.out,HB5.out⟩
  ·
   have hk':k=rs.length:=by omega
   subst hk';have HP':Hid (Picks rs c v):=Hi (by have:=HP.out;rw[List.take_length] at this;exact this);go_wp2;go_ret;exact⟨⟨v,rfl,HP'.out⟩,HB.out⟩
def FE.zero:FE:=⟨.bool false,.slice none 0 0,.slice none 0 0,0,1⟩
structure QBlk (w:World) (g:Nat) (ts:List FE):Prop where
 blk:SB w g 103 (ts.flatMap FE.cells).toArray
 ts:∀t,t∈ ts->FracV w (.agg #[t.x,t.y,t.z]) t.q/\Fits t.q t.k/\0<t.k
theorem QBlk.row{w:World}{g:Nat}{ts:List FE}(h:QBlk w g ts):QRow w (some ⟨g,0,none⟩) ts.length ts:=⟨h.blk.arow rfl lZ,h.ts⟩
theorem QBlk.below{w w':World}{g:Nat}{ts:List FE}(h:QBlk w g ts)(hb:Below w.heap.size w w'):QBlk w' g ts:=⟨h.blk.below hb h.blk.lt,fun t ht=>⟨(h.ts t ht).1.below hb,(h.ts t ht).2⟩⟩
theorem QBlk.no64{w:World}{g:Nat}{ts:List FE}(h:QBlk w g ts):NoU64 (ts.flatMap FE.cells).toArray:=by
 refine Qof fun v hv n=>?_
 obtain⟨t,ht,hv⟩:=List.mem_flatMap.1 hv;obtain⟨h1,h2,h3⟩:=(h.ts t ht).1.no64 n;simp[FE.cells] at hv;rcases hv with rfl|rfl|rfl
 · exact h1
 · exact h2
 · exact h3
theorem Qkx:∀(ts:List FE) (k:Nat) (e:FE),k<ts.length->(ts.set k e).flatMap FE.cells=(((ts.flatMap FE.cells).set (k*3) e.x).set (k*3+1) e.y).set (k*3+2) e.z
 | [],k,e,h=>by simp at h
 |t :: l,0,e,_=>by simp[FE.cells]
 |t :: l,k+1,e,h=>by
  have ih:=Qkx l k e (by simpa using h);rw[List.set_cons_succ,List.flatMap_cons,ih,List.flatMap_cons];simp only[FE.cells,List.cons_append,List.nil_append];rw[show (k+1)*3=k*3+1+1+1 by omega];simp only[List.set_cons_succ,Nat.add_assoc]
theorem QBlk.set{w:World}{g:Nat}{ts:List FE}(h:QBlk w g ts){k:Nat}{e:FE}(hk:k<ts.length)(he:FracV w (.agg #[e.x,e.y,e.z]) e.q/\Fits e.q e.k/\0<e.k):
 QBlk (((w.setCell ⟨g,k*3,none⟩ e.x).setCell ⟨g,k*3+1,none⟩ e.y).setCell ⟨g,k*3+2,none⟩ e.z) g (ts.set k e):=by
 have ho:Only g w (((w.setCell ⟨g,k*3,none⟩ e.x).setCell ⟨g,k*3+1,none⟩ e.y).setCell ⟨g,k*3+2,none⟩ e.z):=(((Only.refl g w).setCell _ _).setCell _ _).setCell _ _;refine⟨?_,fun t ht=>?_⟩
 ·
  have:=((h.blk.set (k*3) e.x).set (k*3+1) e.y).set (k*3+2) e.z;rw[Qkx ts k e hk]
  simpa using this
 ·
  rcases List.mem_or_eq_of_mem_set ht with ht|rfl
  · exact⟨(h.ts t ht).1.only ho h.blk h.no64,(h.ts t ht).2⟩
  · exact⟨he.1.only ho h.blk h.no64,he.2⟩
theorem QBlk.new(w:World)(n:Nat)(C:Array Value)(hC:C=((List.replicate n FE.zero).flatMap FE.cells).toArray):QBlk (w.alloc (.cells C 103)) w.heap.size (List.replicate n FE.zero):=by
 subst hC;refine⟨SB.new _ _ _,fun t ht=>?_⟩;obtain⟨_,rfl⟩:=List.mem_replicate.1 ht;exact⟨FracV.zero _,Fits.zero,by decide⟩
theorem Qtx(n:Nat):madeCells (Value.cells (.agg #[.bool false,.slice none 0 0,.slice none 0 0])) (n*3)=((List.replicate n FE.zero).flatMap FE.cells).toArray:=by
 apply Array.ext';apply List.ext_getElem?;intro i;by_cases hi:i<n*3
 ·
  have h1:(List.replicate n FE.zero)[i / 3]?=some FE.zero:=by rw[List.getElem?_replicate,if_pos (by omega)]
  have h3:i % 3=0∨i % 3=1∨i % 3=2:=by omega
  have e0:Value.cells (.agg #[.bool false,.slice none 0 0,.slice none 0 0])=#[.bool false,.slice none 0 0,.slice none 0 0]:=by rfl
  have h4:i / 3*3+i % 3=i:=by omega
  have hm:(madeCells (Value.cells (.agg #[.bool false,.slice none 0 0,.slice none 0 0])) (n*3)).toList[i]?=some ((#[Value.bool false,.slice none 0 0,.slice none 0 0]:Array Value)[i % 3]!):=by
   rw[e0];simp[madeCells,hi]
  rw[hm];have hf:∀u,(FE.cells FE.zero)[i % 3]?=some u->((List.replicate n FE.zero).flatMap FE.cells)[i]?=some u:=fun u hu=>by
   have:=Qb2 (sz:=3) (fun _=>rfl) _ _ _ _ _ h1 hu;rw[h4] at this;exact this
  simp only[List.toList_toArray];rcases h3 with h3|h3|h3
  all_goals
   rw[h3] at hf ⊢;exact(hf _ rfl).symm
 ·
  have h1:((List.replicate n FE.zero).flatMap FE.cells).length=n*3:=by rw[Qcg (sz:=3) (fun _=>rfl)];simp
  have h2:=size_madeCells (Value.cells (.agg #[.bool false,.slice none 0 0,.slice none 0 0])) (n*3);rw[List.getElem?_eq_none (by rw[Array.length_toList,h2];omega),List.getElem?_eq_none (by simp only[List.toList_toArray];rw[h1];omega)]
theorem Qef:(Tryz.prog.info? 103).map (fun i=>(i.zero,i.size,i.bytes))=some (some (.agg #[.bool false,.slice none 0 0,.slice none 0 0]),3,56):=by kernel_rfl
theorem Qa6(n:Nat)(hn:n<=1048576)(w:World):(Instr.makeSlice 70 (.int .i64 n) (.int .i64 n)).run Tryz.prog w=.ok (.slice (some ⟨w.heap.size,0,none⟩) n n) (w.alloc (.cells ((List.replicate n FE.zero).flatMap FE.cells).toArray 103)):=by
 obtain⟨i,hi,h⟩:=Option.map_eq_some_iff.1 Qef;simp only[Prod.mk.injEq] at h;obtain⟨hz,hs,hb⟩:=h;have:=run_make w 70 103 i _ Tryz.underlying70 hi hz .i64 .i64 n n (by omega) (by omega) (by rw[hb];omega) (by omega);rw[Int.toNat_natCast,hs,Qtx] at this;exact this
def Made(f:Nat->Rat->Rat)(B:Nat)(ts us:List FE)(k:Nat):Prop:=
 us.length=ts.length/\∀i e,i<k->ts[i]?=some e->∃u,us[i]?=some u/\u.q=f i e.q/\u.k<=B
theorem Made.start(f:Nat->Rat->Rat)(B:Nat)(ts:List FE):Made f B ts (List.replicate ts.length FE.zero) 0:=⟨by simp,fun i e hi=>by omega⟩
theorem Made.step{f:Nat->Rat->Rat}{B:Nat}{ts us:List FE}{k:Nat}{e u:FE}(h:Made f B ts us k)(he:ts[k]?=some e)(hu:u.q=f k e.q)(hB:u.k<=B):Made f B ts (us.set k u) (k+1):=by
 have hk:=(gZ he).1;refine⟨by rw[List.length_set];exact h.1,fun i x hi hx=>?_⟩;rcases Nat.lt_or_ge i k with hlt|hge
 · obtain⟨y,h1,h2⟩:=h.2 i x hlt hx
   exact⟨y,by rw[List.getElem?_set_ne (by omega)];exact h1,h2⟩
 ·
  obtain rfl:i=k:=by omega
  obtain rfl:=Option.some.inj (he.symm.trans hx);exact⟨u,by rw[List.getElem?_set_self (by rw[h.1];exact hk)],hu,hB⟩
set_option maxRecDepth 100000 in
set_option maxHeartbeats 4000000 in
theorem Qty(a:Option Addr)(cap B j:Nat)(ts:List FE)(b1 b2 b3:Value)(q:Rat)(w:World)(h:QRow w a cap ts)(hl:ts.length<=1000)(hv:FracV w (.agg #[b1,b2,b3]) q)(hq:Fits q j)(hj:0<j)(hB:∀t∈ ts,t.k+j<=B)(hBB:B<68719476000):
 Calls Tryz.prog 142 #[.slice a ts.length cap,.agg #[b1,b2,b3]] w fun e w'=>(∃g us,e=.returned (.slice (some ⟨g,0,none⟩) ts.length ts.length)/\w.heap.size<=g/\QBlk w' g us/\Made (fun _ x=>x / q) B ts us ts.length)/\Below w.heap.size w w':=by
 have HH:=Hi h;have HV:=Hi hv;have HF:=Hi hq;have HKB:=Hi hB;have hmk:=fun w=>Qa6 ts.length (by omega) w
 obtain⟨MC,hMC⟩:=nm (((List.replicate ts.length FE.zero).flatMap FE.cells).toArray);rw[hMC] at hmk;have HMC:=Hi hMC.symm;clear h hv hq hB hMC;go_enter Tryz.func142,Tryz.ntmps142;go_wp2_with fail;clear hmk;obtain⟨g,hg⟩:=nm (w.heap.size+1);have hgw:w.heap.size<g:=by omega
 obtain⟨W,hW⟩:=nm ((w.alloc (.cells #[b1,b2,b3] 103)).alloc (.cells MC 103));have HB0:Hid (Below w.heap.size w W):=Hi (by rw[<-hW];exact Below.new2 w _ _);have HS0:Hid (SB W w.heap.size 103 #[b1,b2,b3]):=Hi (by rw[<-hW];exact(SB.new w _ _).alloc _);have HQ0:Hid (QBlk W g (List.replicate ts.length FE.zero)):=Hi (by rw[<-hW,<-hg];have:=QBlk.new (w.alloc (.cells #[b1,b2,b3] 103)) ts.length MC HMC.out;simpa using this)
 try rw[hW]
 try rw[hg]
 clear hW hg;go_loopw [12] (fun i wr=>∃(k:Nat) (us:List FE),k<=ts.length/\i=.int .i64 k/\Made (fun _ x=>x / q) B ts us k/\QBlk wr g us/\SB wr w.heap.size 103 #[b1,b2,b3]/\Below w.heap.size w wr) (fun i _=>ts.length - (intOf i).toNat)
 case atStart=>exact⟨0,_,by omega,rfl,Made.start _ _ _,HQ0.out,HS0.out,HB0.out⟩
 case round=>
  obtain⟨k,us,hk,rfl,hm,hqb,hs,hb⟩:=hrel;have HB:=Hi hb;have HM:=Hi hm;have HQ:=Hi hqb;have HS:=Hi hs;have hul:=hm.1;have hgl:=hqb.blk.lt;clear hb hm hqb hs;by_cases hlt:k<ts.length
  ·
   obtain⟨e,he⟩:∃e,ts[k]?=some e:=⟨ts[k],gE hlt⟩;obtain⟨fb,off,rfl,hfw,_⟩:=HH.out.at he;obtain⟨fb',off',hfe,hfb,d0,d1,d2⟩:=(HH.out.below HB.out).at he;cases hfe;have n1:g≠fb:=by omega
   have n2:g≠w.heap.size:=by omega
   obtain⟨hx,hxf,hxk⟩:=(HH.out.below HB.out).get he;have hkj:=HKB.out e (mO he);obtain⟨y0,hy0⟩:∃y0,us[k]?=some y0:=⟨us[k],gE (by omega)⟩;have HE:=Hi he;have HX:=Hi hx;have HXF:=Hi hxf;have HY:=Hi (HV.out.below HB.out);obtain⟨k0,k1,k2,-⟩:=zc HS.out;have q1:((k:Int)<(ts.length:Int)):=by omega
   have HY0:=Hi hy0;have D0:=Hi d0;have D1:=Hi d1;have D2:=Hi d2;clear he hx hxf hy0;go_wp2_with fail;go_region_held3 (fun v=>v.cell? ⟨fb,off+k*3,none⟩=some e.x/\v.cell? ⟨fb,off+k*3+1,none⟩=some e.y/\v.cell? ⟨fb,off+k*3+2,none⟩=some e.z/\v.cell? ⟨w.heap.size,0,none⟩=some b1/\v.cell? ⟨w.heap.size,1,none⟩=some b2/\v.cell? ⟨w.heap.size,2,none⟩=some b3) ((first|(simp [*];done)|go_keep)) (first
    |(
     go_at_call_of 115 e.x;apply cM
     first
      |exact Qb4 HX.out HY.out HXF.out HF.out (by omega)
      |exact Qb4 (HX.out.below bR.drew) (HY.out.below bR.drew) HXF.out HF.out (by omega)
     rintro e' w5 ⟨⟨v5,rfl,hv5⟩,hb5⟩;obtain⟨n5,a5,l5,c5,m5,o5,p5,rfl,hv5⟩:=hv5
     first
      |have HB5:Hid (Below wr.heap.size wr w5):=Hi hb5
      |have HB5:Hid (Below wr.heap.size wr w5):=Hi (bR.drew.trans hb5)
     have HV5:Hid (FracV w5 (.agg #[.bool n5,.slice a5 l5 c5,.slice m5 o5 p5]) (e.q / q)):=Hi ⟨n5,a5,l5,c5,m5,o5,p5,rfl,hv5⟩;clear hv5 hb5;have HQ5:=Hi (HQ.out.below HB5.out);have v0:=ce HB5.out hfb D0.out;have v1:=ce HB5.out hfb D1.out;have v2:=ce HB5.out hfb D2.out;have HS5:=Hi (HS.out.below HB5.out HS.out.lt);obtain⟨u0,u1,u2,-⟩:=zc HS5.out;have f0:=HQ5.out.blk.free (k*3);have f1:=HQ5.out.blk.free (k*3+1);have f2:=HQ5.out.blk.free (k*3+2);obtain⟨gb,goff,hge,_,t0,t1,t2⟩:=HQ5.out.row.at HY0.out;cases hge;simp only[Nat.zero_add] at t0 t1 t2
     skip))
   all_goals
    go_wp2_with fail;have HN:=Hi (HQ5.out.set (k:=k) (e:=⟨.bool n5,.slice a5 l5 c5,.slice m5 o5 p5,e.q / q,e.k+j⟩) (by omega) ⟨HV5.out,HXF.out.div HF.out hxk hj,Nat.lt_add_right j hxk⟩);have HS6:=Hi (((HS5.out.other n2.symm (k*3) (.bool n5)).other n2.symm (k*3+1) (.slice a5 l5 c5)).other n2.symm (k*3+2) (.slice m5 o5 p5));have HB6:=Hi ((((HB.out.trans (HB5.out.mono HB.out.size)).setCell (p:=⟨g,k*3,none⟩) (Nat.le_of_lt hgw) (.bool n5)).setCell (p:=⟨g,k*3+1,none⟩) (Nat.le_of_lt hgw) (.slice a5 l5 c5)).setCell (p:=⟨g,k*3+2,none⟩) (Nat.le_of_lt hgw) (.slice m5 o5 p5));refine⟨⟨k+1,_,by omega,by go_num,HM.out.step HE.out rfl hkj,HN.out,HS6.out,HB6.out⟩,?_⟩;simp[intOf];omega
  ·
   have hk':k=ts.length:=by omega
   subst hk';go_wp2;go_ret;exact⟨⟨g,us,rfl,by omega,HQ.out,HM.out⟩,HB.out⟩
def qAt(ss:List FE)(i:Nat):Rat:=(ss.map (·.q)).getD i 0
theorem Qa7{ss:List FE}{i:Nat}{e:FE}(h:ss[i]?=some e):qAt ss i=e.q:=by
 unfold qAt;simp[List.getD,h]
set_option maxRecDepth 100000 in
set_option maxHeartbeats 4000000 in
theorem Qeg(a a':Option Addr)(cap cap' B j:Nat)(ts ss:List FE)(b1 b2 b3:Value)(q:Rat)(w:World)(h:QRow w a cap ts)(h':QRow w a' cap' ss)(hss:ss.length=ts.length)(hl:ts.length<=1000)(hv:FracV w (.agg #[b1,b2,b3]) q)(hq:Fits q j)(hj:0<j)(hB:∀t∈ ts,∀s∈ ss,t.k+s.k+j+1<=B)(hBB:B<68719476000):
 Calls Tryz.prog 114 #[.slice a ts.length cap,.slice a' ts.length cap',.agg #[b1,b2,b3]] w fun e w'=>(∃g us,e=.returned (.slice (some ⟨g,0,none⟩) ts.length ts.length)/\w.heap.size<=g/\QBlk w' g us/\Made (fun i x=>x - qAt ss i*q) B ts us ts.length)/\Below w.heap.size w w':=by
 have HH:=Hi h;have HG:=Hi h';have HV:=Hi hv;have HF:=Hi hq;have HKB:=Hi hB;have hmk:=fun w=>Qa6 ts.length (by omega) w
 obtain⟨MC,hMC⟩:=nm (((List.replicate ts.length FE.zero).flatMap FE.cells).toArray);rw[hMC] at hmk;have HMC:=Hi hMC.symm;clear h h' hv hq hB hMC;go_enter Tryz.func114,Tryz.ntmps114;go_wp2_with fail;clear hmk;obtain⟨g,hg⟩:=nm (w.heap.size+1);have hgw:w.heap.size<g:=by omega
 obtain⟨W,hW⟩:=nm ((w.alloc (.cells #[b1,b2,b3] 103)).alloc (.cells MC 103));have HB0:Hid (Below w.heap.size w W):=Hi (by rw[<-hW];exact Below.new2 w _ _);have HS0:Hid (SB W w.heap.size 103 #[b1,b2,b3]):=Hi (by rw[<-hW];exact(SB.new w _ _).alloc _);have HQ0:Hid (QBlk W g (List.replicate ts.length FE.zero)):=Hi (by rw[<-hW,<-hg];have:=QBlk.new (w.alloc (.cells #[b1,b2,b3] 103)) ts.length MC HMC.out;simpa using this)
 try rw[hW]
 try rw[hg]
 clear hW hg;go_loopw [14] (fun i wr=>∃(k:Nat) (us:List FE),k<=ts.length/\i=.int .i64 k/\Made (fun i x=>x - qAt ss i*q) B ts us k/\QBlk wr g us/\SB wr w.heap.size 103 #[b1,b2,b3]/\Below w.heap.size w wr) (fun i _=>ts.length - (intOf i).toNat)
 case atStart=>exact⟨0,_,by omega,rfl,Made.start _ _ _,HQ0.out,HS0.out,HB0.out⟩
 case round=>
  obtain⟨k,us,hk,rfl,hm,hqb,hs,hb⟩:=hrel;have HB:=Hi hb;have HM:=Hi hm;have HQ:=Hi hqb;have HS:=Hi hs;have hul:=hm.1;have hgl:=hqb.blk.lt;clear hb hm hqb hs;by_cases hlt:k<ts.length
  ·
   obtain⟨e,he⟩:∃e,ts[k]?=some e:=⟨ts[k],gE hlt⟩;obtain⟨s,hs⟩:∃s,ss[k]?=some s:=⟨ss[k],gE (by omega)⟩;obtain⟨fb,off,rfl,hfw,D0,D1,D2⟩:=HH.out.at he;obtain⟨sb,soff,rfl,hsw,E0,E1,E2⟩:=HG.out.at hs;obtain⟨hx,hxf,hxk⟩:=HH.out.get he;obtain⟨hy,hyf,hyk⟩:=HG.out.get hs;have hkj:=HKB.out e (mO he) s (mO hs);obtain⟨y0,hy0⟩:∃y0,us[k]?=some y0:=⟨us[k],gE (by omega)⟩;have n1:g≠fb:=by omega
   have n2:g≠w.heap.size:=by omega
   have n3:g≠sb:=by omega
   have HE:=Hi he;have HSQ:=Hi (Qa7 hs);have HX:=Hi hx;have HXF:=Hi hxf;have HY:=Hi hy;have HYF:=Hi hyf;have HD0:=Hi D0;have HD1:=Hi D1;have HD2:=Hi D2;have HE0:=Hi E0;have HE1:=Hi E1;have HE2:=Hi E2;obtain⟨o1,o2,o3⟩:=hx.one;have st0:=Qaa Tryz.prog o1;have st1:=Qaa Tryz.prog o2;have st2:=Qaa Tryz.prog o3;have d0:=ce HB.out hfw D0;have d1:=ce HB.out hfw D1;have d2:=ce HB.out hfw D2;have q1:((k:Int)<(ts.length:Int)):=by omega
   have f0:=HQ.out.blk.free (k*3);have f1:=HQ.out.blk.free (k*3+1);have f2:=HQ.out.blk.free (k*3+2);obtain⟨gb,goff,hge,_,t0,t1,t2⟩:=HQ.out.row.at hy0;cases hge;simp only[Nat.zero_add] at t0 t1 t2;obtain⟨W1,hW1⟩:=nm (((wr.setCell ⟨g,k*3,none⟩ e.x).setCell ⟨g,k*3+1,none⟩ e.y).setCell ⟨g,k*3+2,none⟩ e.z);have HQ1:Hid (QBlk W1 g (us.set k e)):=Hi (by rw[<-hW1];exact HQ.out.set (by omega) ⟨hx.below HB.out,hxf,hxk⟩);have HS1:Hid (SB W1 w.heap.size 103 #[b1,b2,b3]):=Hi (by rw[<-hW1];exact((HS.out.other n2.symm _ _).other n2.symm _ _).other n2.symm _ _);have HB1:Hid (Below w.heap.size w W1):=Hi (by rw[<-hW1];exact((HB.out.setCell (p:=⟨g,k*3,none⟩) (Nat.le_of_lt hgw) _).setCell (p:=⟨g,k*3+1,none⟩) (Nat.le_of_lt hgw) _).setCell (p:=⟨g,k*3+2,none⟩) (Nat.le_of_lt hgw) _);have s0:=ce HB1.out hsw E0;have s1:=ce HB1.out hsw E1
   have s2:=ce HB1.out hsw E2;rw[<-hW1] at s0 s1 s2;have HW1:=Hi hW1;clear he hs hx hxf hy hyf hy0 hW1 o1 o2 o3 D0 D1 D2 E0 E1 E2;go_wp2_with fail;rw[HW1.out];clear s0 s1 s2 d0 d1 d2 f0 f1 f2 t0 t1 t2 st0 st1 st2;go_fit (Qbn (HY.out.below HB1.out));rintro e' w4 ⟨rfl,hb4⟩;have HB4:=Hi (HB1.out.trans (hb4.mono HB1.out.size));have HQ4:=Hi (HQ1.out.below hb4);have HS4:=Hi (HS1.out.below hb4 HS1.out.lt);clear hb4;by_cases h0:s.q=0
   ·
    rw[decide_eq_true h0];have HZ:Hid (e.q=e.q - qAt ss k*q):=Hi (by rw[HSQ.out,h0,Rat.zero_mul,Rat.sub_eq_add_neg,Rat.neg_zero,Rat.add_zero]);clear h0;go_wp2;go_roundw
    case rel=>exact⟨k+1,_,by omega,by go_num,HM.out.step HE.out HZ.out (by omega),HQ4.out,HS4.out,HB4.out⟩
    case measure=>simp[intOf];omega
   ·
    rw[decide_eq_false h0];clear h0;go_wp2_with fail;have x0:=ce HB4.out hfw HD0.out;have x1:=ce HB4.out hfw HD1.out;have x2:=ce HB4.out hfw HD2.out;have z0:=ce HB4.out hsw HE0.out;have z1:=ce HB4.out hsw HE1.out;have z2:=ce HB4.out hsw HE2.out;obtain⟨k0,k1,k2,-⟩:=zc HS4.out;have hkk:k<(us.set k e).length:=by rw[List.length_set];omega
    go_region_held3 (fun v=>v.cell? ⟨fb,off+k*3,none⟩=some e.x/\v.cell? ⟨fb,off+k*3+1,none⟩=some e.y/\v.cell? ⟨fb,off+k*3+2,none⟩=some e.z/\v.cell? ⟨sb,soff+k*3,none⟩=some s.x/\v.cell? ⟨sb,soff+k*3+1,none⟩=some s.y/\v.cell? ⟨sb,soff+k*3+2,none⟩=some s.z/\v.cell? ⟨w.heap.size,0,none⟩=some b1/\v.cell? ⟨w.heap.size,1,none⟩=some b2/\v.cell? ⟨w.heap.size,2,none⟩=some b3) ((first|(simp [*];done)|go_keep)) (first
     |(
      go_at_call 96;apply cM
      first
       |exact Qdl (HY.out.below HB4.out) (HV.out.below HB4.out) HYF.out HF.out (by omega)
       |exact Qdl (HY.out.below HB4.out.drew) (HV.out.below HB4.out.drew) HYF.out HF.out (by omega)
       |exact Qdl (HY.out.below HB4.out.drew.drew) (HV.out.below HB4.out.drew.drew) HYF.out HF.out (by omega)
      rintro e5 w5 ⟨⟨v5,rfl,hv5⟩,hb5⟩;obtain⟨n5,a5,l5,c5,m5,o5,p5,rfl,hv5⟩:=hv5
      first
       |have HB45:Hid (Below w4.heap.size w4 w5):=Hi hb5
       |have HB45:Hid (Below w4.heap.size w4 w5):=Hi (bR.drew.trans hb5)
       |have HB45:Hid (Below w4.heap.size w4 w5):=Hi (bR.drew.drew.trans hb5)
      have HV5:Hid (FracV w5 (.agg #[.bool n5,.slice a5 l5 c5,.slice m5 o5 p5]) (s.q*q)):=Hi ⟨n5,a5,l5,c5,m5,o5,p5,rfl,hv5⟩;clear hv5 hb5;have HB5:=Hi (HB4.out.trans (HB45.out.mono HB4.out.size));have HQ5:=Hi (HQ4.out.below HB45.out);have HS5:=Hi (HS4.out.below HB45.out HS4.out.lt);have x0:=ce HB5.out hfw HD0.out;have x1:=ce HB5.out hfw HD1.out;have x2:=ce HB5.out hfw HD2.out;have z0:=ce HB5.out hsw HE0.out;have z1:=ce HB5.out hsw HE1.out;have z2:=ce HB5.out hsw HE2.out;obtain⟨k0,k1,k2,-⟩:=zc HS5.out
      skip)
     |(
      go_at_call 50;apply cM
      first
       |exact Qdm (HX.out.below HB5.out) HV5.out HXF.out (HYF.out.mul HF.out hyk) (by omega)
       |exact Qdm (HX.out.below HB5.out.drew) (HV5.out.below bR.drew) HXF.out (HYF.out.mul HF.out hyk) (by omega)
       |exact Qdm (HX.out.below HB5.out.drew.drew) (HV5.out.below bR.drew.drew) HXF.out (HYF.out.mul HF.out hyk) (by omega)
      rintro e6 w6 ⟨⟨v6,rfl,hv6⟩,hb6⟩;obtain⟨n6,a6,l6,c6,m6,o6,p6,rfl,hv6⟩:=hv6
      first
       |have HB56:Hid (Below w5.heap.size w5 w6):=Hi hb6
       |have HB56:Hid (Below w5.heap.size w5 w6):=Hi (bR.drew.trans hb6)
       |have HB56:Hid (Below w5.heap.size w5 w6):=Hi (bR.drew.drew.trans hb6)
      have HV6:Hid (FracV w6 (.agg #[.bool n6,.slice a6 l6 c6,.slice m6 o6 p6]) (e.q - s.q*q)):=Hi ⟨n6,a6,l6,c6,m6,o6,p6,rfl,hv6⟩;clear hv6 hb6;have HB6:=Hi (HB5.out.trans (HB56.out.mono HB5.out.size));have HQ6:=Hi (HQ5.out.below HB56.out);have HS6:=Hi (HS5.out.below HB56.out HS5.out.lt);have x0:=ce HB6.out hfw HD0.out;have x1:=ce HB6.out hfw HD1.out;have x2:=ce HB6.out hfw HD2.out;have z0:=ce HB6.out hsw HE0.out;have z1:=ce HB6.out hsw HE1.out;have z2:=ce HB6.out hsw HE2.out;obtain⟨k0,k1,k2,-⟩:=zc HS6.out
      have f0:=HQ6.out.blk.free (k*3);have f1:=HQ6.out.blk.free (k*3+1);have f2:=HQ6.out.blk.free (k*3+2);obtain⟨gb,goff,hge,_,t0,t1,t2⟩:=HQ6.out.row.at (i:=k) (e:=e) (List.getElem?_set_self (by omega));cases hge;simp only[Nat.zero_add] at t0 t1 t2
      skip))
    all_goals
     go_wp2_with fail;have HN:=Hi (HQ6.out.set (k:=k) (e:=⟨.bool n6,.slice a6 l6 c6,.slice m6 o6 p6,e.q - s.q*q,e.k+(s.k+j)+1⟩) hkk ⟨HV6.out,HXF.out.sub (HYF.out.mul HF.out hyk),Nat.succ_pos _⟩);have HS7:=Hi (((HS6.out.other n2.symm (k*3) (.bool n6)).other n2.symm (k*3+1) (.slice a6 l6 c6)).other n2.symm (k*3+2) (.slice m6 o6 p6));have HB7:=Hi (((HB6.out.setCell (p:=⟨g,k*3,none⟩) (Nat.le_of_lt hgw) (.bool n6)).setCell (p:=⟨g,k*3+1,none⟩) (Nat.le_of_lt hgw) (.slice a6 l6 c6)).setCell (p:=⟨g,k*3+2,none⟩) (Nat.le_of_lt hgw) (.slice m6 o6 p6));rw[List.set_set] at HN;refine⟨⟨k+1,_,by omega,by go_num,HM.out.step HE.out (by rw[HSQ.out]) (by show e.k+(s.k+j)+1<=B;omega),HN.out,HS7.out,HB7.out⟩,?_⟩;simp[intOf];omega
  ·
   have hk':k=ts.length:=by omega
   subst hk';go_wp2;go_ret;exact⟨⟨g,us,rfl,by omega,HQ.out,HM.out⟩,HB.out⟩
theorem mr_sl(rs:List MR):∀v∈ rs.flatMap MR.cells,∃a n c,v=Value.slice a n c:=by
 intro v hv;obtain⟨r,_,hv⟩:=List.mem_flatMap.1 hv;exact⟨_,_,_,by simpa [MR.cells] using hv⟩
theorem Qeh:∀(rs:List MR) (k:Nat) (r:MR),(rs.set k r).flatMap MR.cells=(rs.flatMap MR.cells).set k (.slice r.a r.ts.length r.cap)
 | [],k,r=>by simp
 |t :: l,0,r=>by simp[MR.cells]
 |t :: l,k+1,r=>by
  have ih:=Qeh l k r;rw[List.set_cons_succ,List.flatMap_cons,ih,List.flatMap_cons];simp[MR.cells]
def MR.none:MR:=⟨.none,0,[]⟩
theorem Qtz(n:Nat):madeCells (Value.cells (.slice .none 0 0)) n=((List.replicate n MR.none).flatMap MR.cells).toArray:=by
 have e:Value.cells (.slice .none 0 0)=#[.slice .none 0 0]:=by rfl
 rw[e];apply Array.ext';rw[toList_madeCells_one]
 induction n with
 |zero=>rfl
 |succ n ih=>
  simp only[List.toList_toArray] at ih ⊢;rw[List.replicate_succ,List.replicate_succ,List.flatMap_cons,<-ih];rfl
theorem Qcy:(Tryz.prog.info? 70).map (fun i=>(i.zero,i.size,i.bytes))=some (some (.slice .none 0 0),1,24):=by kernel_rfl
theorem Qga(n:Nat)(hn:n<=1048576)(w:World):(Instr.makeSlice 67 (.int .i64 n) (.int .i64 n)).run Tryz.prog w=.ok (.slice (some ⟨w.heap.size,0,.none⟩) n n) (w.alloc (.cells ((List.replicate n MR.none).flatMap MR.cells).toArray 70)):=by
 obtain⟨i,hi,h⟩:=Option.map_eq_some_iff.1 Qcy;simp only[Prod.mk.injEq] at h;obtain⟨hz,hs,hb⟩:=h;have:=run_make w 67 70 i _ Tryz.underlying67 hi hz .i64 .i64 n n (by omega) (by omega) (by rw[hb];omega) (by omega);rw[Int.toNat_natCast,hs,Nat.mul_one,Qtz] at this;exact this
end Go.Proofs.YtfpcipgoedifaaaGreatDoor
