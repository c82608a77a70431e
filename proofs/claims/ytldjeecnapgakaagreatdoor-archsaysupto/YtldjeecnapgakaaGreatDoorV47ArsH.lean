/- The reference's Range. -/
import Derived.Test.YtldjeecnapgakaaGreatDoorV46ArsI
namespace Go.Proofs.YtldjeecnapgakaaGreatDoor
open Go.RowKit
open Go.Proofs.Tryz
set_option linter.unusedSimpArgs false
set_option linter.unusedVariables false
set_option maxHeartbeats 8000000
set_option maxRecDepth 1000000
theorem Qlx(n:Nat)(hn:n<=1048576):∃MC:Array Value,MC=(List.replicate n (Value.pointer none)).toArray/\∀w:World,(Instr.makeSlice 51 (.int .i64 n) (.int .i64 n)).run prog w=.ok (.slice (some ⟨w.heap.size,0,none⟩) n n) (w.alloc (.cells MC 42)):=by
 obtain⟨i,hi,h⟩:=Option.map_eq_some_iff.1 Qi5;simp only[Prod.mk.injEq] at h;obtain⟨hz,hs,hb⟩:=h;refine⟨madeCells #[.pointer none] n,?_,fun w=>?_⟩
 . rw[<-toList_madeCells_one,Array.toArray_toList]
 .
  have:=run_make w 51 42 i _ underlying51 hi hz .i64 .i64 (n:Int) (n:Int) (by omega) (by omega) (by rw[hb];omega) (by omega);rw[hs] at this;simp only[Int.toNat_natCast,Nat.mul_one] at this;exact this
theorem Qly{q:Rat}(h1:q≠0)(h2:¬0<q):q<0:=by grind
theorem Qlz{a b:Rat}(h:a<b):b - a≠0:=by grind
def AggF(q:Rat)(bk:Nat):Fact:=fun v w=>∃bc,v=.agg #[.pointer (some ⟨bc,0,none⟩),.pointer (some ⟨bk,0,none⟩)]/\RF q (4194400+4194400+1+(4194400+4194400+1)) (.pointer (some ⟨bc,0,none⟩)) w
theorem AggF.stays(q:Rat)(bk:Nat):Stays (AggF q bk):=fun _ _ _ hb ⟨bc,e,h⟩=>⟨bc,e,h.below hb⟩
def OneF(q:Rat)(bk:Nat):Fact:=fun v w=>∃nb bc,v=.slice (some ⟨nb,0,none⟩) 1 1/\SB w nb 88 #[.pointer (some ⟨bc,0,none⟩),.pointer (some ⟨bk,0,none⟩)]/\RF q (4194400+4194400+1+(4194400+4194400+1)) (.pointer (some ⟨bc,0,none⟩)) w
theorem OneF.stays(q:Rat)(bk:Nat):Stays (OneF q bk):=fun _ _ _ hb ⟨nb,bc,e,h1,h2⟩=>⟨nb,bc,e,h1.below hb h1.lt,h2.below hb⟩
theorem Qgr{w:World}{b c:Nat}{p q:Rat}{j k:Nat}(h1:RF p j (.pointer (some ⟨b,0,none⟩)) w)(h2:RF q k (.pointer (some ⟨c,0,none⟩)) w):RVs w (sdR ((b,p,j),(c,q,k))):=fun t ht=>by
 simp only[sdR,List.mem_cons,List.not_mem_nil,or_false] at ht;obtain⟨b',e1,r1⟩:=h1;obtain⟨c',e2,r2⟩:=h2;cases e1;cases e2;rcases ht with rfl|rfl
 . exact r1
 . exact r2
theorem Ql0(al:Option Addr)(cl n:Nat)(ss:List T4)(vs:List V4)(w:World)(hg:Glob w)(hr:ARow T4.cells w al cl ss)(hl:ss.length=n)(hv:StonesV ss vs)(h0:(archF vs).1=0):
 Calls prog 15 #[.slice al n cl] w fun e w'=>RangeSays vs w e w':=by
 have HZ:=Hi h0;obtain⟨hn2,hn10⟩:=Qat h0;rw[hv.len,hl] at hn2 hn10;obtain⟨HG,HRW,HSL,HV,HVL⟩:=Id hg hr hl hv (hv.len.trans hl);have HR:=Hi (Qa5 h0).1;obtain⟨g,hgw⟩:=nm w.heap.size;obtain⟨MC,hMC,hmk⟩:=Qlx n (by omega);obtain⟨V,hV⟩:=nm (w.alloc (.cells MC 42));have HBV:=Ua hV;have HF0:O (FAt V g n []):=Hi ⟨by rw[<-hV,<-hgw,hMC];exact SB.new w _ _,(fun t ht=>by cases ht),Nat.zero_le _⟩;obtain⟨HVE,HGE⟩:=Ia hV hgw;clear hg hr hl hv h0 hV hgw hMC;go_enter func15,ntmps15;go_wp2_with fail;rw[HVE.o];simp only[HGE.o];clear hmk;go_loopw [27] (fun iv wr=>∃(k:Nat) (ts:List RT),k<=n/\iv=.int .i64 k/\FAt wr g n ts/\ts.length=k/\(∀(i:Nat) (t:RT),ts[i]?=some t->t.2.1=fallF vs i/\t.2.2<=120000000)/\Below w.heap.size w wr) (fun iv _=>n - (intOf iv).toNat)
 case atStart=>exact⟨0,[],Nat.zero_le _,rfl,HF0.o,rfl,fun i t ht=>by simp at ht,HBV.o⟩
 case round=>
  obtain⟨k,ts,hk,rfl,hfa,htl,htv,hbw⟩:=hrel;obtain⟨HFA,HTL,HTV,HBW⟩:=Ic hfa htl htv hbw;clear hfa htl htv hbw HF0;by_cases hkn:k<n
  .
   have q1:((k:Int)<(n:Int)):=by omega
   go_wp2_with fail;refine(ref_N 0 wr (by decide)).mono ?_;intro e w1 hn1;obtain⟨vp,rfl,hb1,bn,rfl,hrv,hfit,hk0⟩:=hn1.makes (k:=1) (show Fits ((0:Nat):Rat) 1 from Fits.zero) (by decide);have hfb:=HFA.o.below hb1;have c0:=hfb.nil (by have:=HTL.o;omega);have f0:=hfb.blk.free k;obtain⟨hnew,ho⟩:=hfb.put (t:=(bn,0,1)) (by have:=HTL.o;omega) ⟨hrv,hfit,hk0⟩;rw[HTL.o] at c0 hnew ho;obtain⟨U,hU⟩:=nm (w1.setCell ⟨g,k,none⟩ (ptrV (bn,0,1)));rw[hU] at hnew ho;obtain⟨HNEW,HBU⟩:=Ia hnew (Only.fresh (HBW.o.trans (hb1.mono HBW.o.size)) ho (Nat.le_of_eq HGE.o));have HUE:O (w1.setCell ⟨g,k,none⟩ (.pointer (some ⟨bn,0,none⟩))=U):=Hi hU;clear hn1 hb1 hrv hfit hk0 hfb hnew ho hU;go_wp2_with fail;rw[HUE.o];clear c0 f0
   go_loopw [7] (fun iv wr=>∃(j b kq:Nat),1<=j/\(j<=k∨j=1)/\iv=.int .i64 j/\FAt wr g n (ts++ [(b,falTo (atF vs) (wtF vs) k (j - 1),kq)])/\kq=1+(j - 1)*(4194400+(4194400+4194400+1)+1)/\Below w.heap.size w wr) (fun iv _=>k - (intOf iv).toNat)
   case atStart=>exact⟨1,bn,1,by omega,Or.inr rfl,rfl,HNEW.o,rfl,HBU.o⟩
   case round=>
    obtain⟨j,b,kq,hj1,hjk,rfl,hfa,hK,hbw⟩:=hrel;obtain⟨HFJ,HKE,HBJ⟩:=Ib hfa hK hbw;clear hfa hK hbw HNEW HBU;by_cases hjl:j<k
    .
     have q2:((j:Int)<(k:Int)):=by omega
     have q3:((j:Int)<(n:Int)):=by omega
     obtain⟨sj,hsj⟩:∃s,ss[j]?=some s:=⟨ss[j]'(by have:=HSL.o;omega),gE _⟩;obtain⟨sk,hsk⟩:∃s,ss[k]?=some s:=⟨ss[k]'(by have:=HSL.o;omega),gE _⟩;obtain⟨vj,hvj⟩:∃v,vs[j]?=some v:=⟨vs[j]'(by have:=HVL.o;omega),gE _⟩;obtain⟨vk,hvk⟩:∃v,vs[k]?=some v:=⟨vs[k]'(by have:=HVL.o;omega),gE _⟩;obtain⟨HVJ,HVK⟩:=Ia (HV.o.each j sj vj hsj hvj) (HV.o.each k sk vk hsk hvk);have aj:atF vs j=vj.1:=by simp[atF,hvj]
     have ak:atF vs k=vk.1:=by simp[atF,hvk]
     have wj:wtF vs j=vj.2.1:=by simp[wtF,hvj]
     have HFE:O (falTo (atF vs) (wtF vs) k (j - 1)+vj.2.1*(vk.1 - vj.1)=falTo (atF vs) (wtF vs) k (j+1 - 1)):=Hi (by
      obtain⟨j',rfl⟩:∃j',j=j'+1:=⟨j - 1,by omega⟩;rw[show j'+1+1 - 1=j'+1 by omega,show j'+1 - 1=j' by omega,<-aj,<-ak,<-wj]
      rfl)
     obtain⟨Y,hY⟩:=nm wr.drew;have hby:Below wr.heap.size wr Y:=by rw[<-hY];exact(Below.refl _ _).drew
     obtain⟨HFY,HBY⟩:=Ia (HFJ.o.below hby) (HBJ.o.trans (hby.mono HBJ.o.size));have HGY:=Hi (HG.o.below HBY.o);have hlk:(ts++ [(b,falTo (atF vs) (wtF vs) k (j - 1),kq)])[k]?=some (b,falTo (atF vs) (wtF vs) k (j - 1),kq):=by
      rw[List.getElem?_append_right (by rw[HTL.o];exact Nat.le_refl _),HTL.o,Nat.sub_self];rfl
     obtain⟨HLK,FF0⟩:=Ia hlk (HFY.o.num hlk);obtain⟨lb,lo,rfl,_⟩:=HRW.o.stone hsj;obtain⟨HRY,HSJ,HSK,HYE⟩:=Ic (HRW.o.below HBY.o) hsj hsk hY;have hKb:kq<=120000000:=by
      have:=HKE.o;have h8:j - 1<=8:=by omega
      have:=Nat.mul_le_mul_right (4194400+(4194400+4194400+1)+1) h8;omega
     clear hsj hsk hvj hvk aj ak wj hY hby hlk;go_wp2_with fail;refine RegG.bg 28 (fun j=>some (39+j)) ?_;rw[HYE.o];refine RegG.pu (c:=?_) [] (fun w hb=>?_) ?_;rotate_left
     .
      intro K hK;go_simp;exact hK
     refine RegG.pu (c:=?_) [] (fun w hb=>?_) ?_;rotate_left
     .
      intro K hK;go_simp;exact hK
     refine RegG.pu (c:=?_) [] (fun w hb=>?_) ?_;rotate_left
     .
      intro K hK;go_simp;exact hK
     refine RegG.pu (c:=?_) [] (fun w hb=>?_) ?_;rotate_left
     .
      intro K hK;go_simp;exact hK
     refine RegG.pu (c:=?_) [2,3] (fun w hb=>?_) ?_;rotate_left
     .
      intro K hK;go_simp;exact hK
     refine RegG.pu (c:=?_) [4] (fun w hb=>?_) ?_;rotate_left
     .
      intro K hK;have cf:=(HFY.o.below hb).at (i:=k) (t:=(b,falTo (atF vs) (wtF vs) k (j - 1),kq)) HLK.o;simp only[ptrV] at cf;go_simp;exact hK
     refine RegG.pu (c:=?_) [] (fun w hb=>?_) ?_;rotate_left
     .
      intro K hK;go_simp;exact hK
     refine RegG.pu (c:=?_) [] (fun w hb=>?_) ?_;rotate_left
     .
      intro K hK;go_simp;exact hK
     refine RegG.pu (c:=?_) [6,7] (fun w hb=>?_) ?_;rotate_left
     .
      intro K hK;go_simp;exact hK
     refine RegG.pu (c:=?_) [8] (fun w hb=>?_) ?_;rotate_left
     .
      intro K hK;go_simp;exact hK
     refine RegG.pu (c:=?_) [9] (fun w hb=>?_) ?_;rotate_left
     .
      intro K hK;obtain⟨_,_,e1,_,c0,c1,c2,c3⟩:=(HRY.o.below hb).stone HSJ.o;cases e1;go_simp;exact hK
     refine RegG.ca (φ:=RF vj.2.1 4194400) [10] (RF.stays _ _) (fun w hb=>?_) ?_
     .
      intro K hK;go_simp;exact Makes.use (RF.of (HGY.o.below hb) HVJ.o.w HVJ.o.zw.1 HVJ.o.zw.2 (by decide)) hK
     refine RegG.pu (c:=?_) [] (fun w hb=>?_) ?_;rotate_left
     .
      intro K hK;go_simp;exact hK
     refine RegG.pu (c:=?_) [] (fun w hb=>?_) ?_;rotate_left
     .
      intro K hK;go_simp;exact hK
     refine RegG.pu (c:=?_) [12,13] (fun w hb=>?_) ?_;rotate_left
     .
      intro K hK;go_simp;exact hK
     refine RegG.pu (c:=?_) [14] (fun w hb=>?_) ?_;rotate_left
     .
      intro K hK;go_simp;exact hK
     refine RegG.pu (c:=?_) [15] (fun w hb=>?_) ?_;rotate_left
     .
      intro K hK;obtain⟨_,_,e1,_,c0,c1,c2,c3⟩:=(HRY.o.below hb).stone HSK.o;cases e1;go_simp;exact hK
     refine RegG.ca (φ:=RF vk.1 4194400) [16] (RF.stays _ _) (fun w hb=>?_) ?_
     .
      intro K hK;go_simp;exact Makes.use (RF.of (HGY.o.below hb) HVK.o.a HVK.o.za.1 HVK.o.za.2 (by decide)) hK
     refine RegG.pu (c:=?_) [] (fun w hb=>?_) ?_;rotate_left
     .
      intro K hK;go_simp;exact hK
     refine RegG.pu (c:=?_) [] (fun w hb=>?_) ?_;rotate_left
     .
      intro K hK;go_simp;exact hK
     refine RegG.pu (c:=?_) [18,19] (fun w hb=>?_) ?_;rotate_left
     .
      intro K hK;go_simp;exact hK
     refine RegG.pu (c:=?_) [20] (fun w hb=>?_) ?_;rotate_left
     .
      intro K hK;go_simp;exact hK
     refine RegG.pu (c:=?_) [21] (fun w hb=>?_) ?_;rotate_left
     .
      intro K hK;obtain⟨_,_,e1,_,c0,c1,c2,c3⟩:=(HRY.o.below hb).stone HSJ.o;cases e1;go_simp;exact hK
     refine RegG.ca (φ:=RF vj.1 4194400) [22] (RF.stays _ _) (fun w hb=>?_) ?_
     .
      intro K hK;go_simp;exact Makes.use (RF.of (HGY.o.below hb) HVJ.o.a HVJ.o.za.1 HVJ.o.za.2 (by decide)) hK
     refine RegG.ca (φ:=RF (vk.1 - vj.1) (4194400+4194400+1)) [17,23] (RF.stays _ _) (fun w hb=>?_) ?_
     .
      intro v1 h1 v2 h2;intro K hK;go_simp;exact Makes.use (RF.sub h1 h2 (by decide)) hK
     refine RegG.ca (φ:=RF (vj.2.1*(vk.1 - vj.1)) (4194400+(4194400+4194400+1))) [11,24] (RF.stays _ _) (fun w hb=>?_) ?_
     .
      intro v1 h1 v2 h2;intro K hK;go_simp;exact Makes.use (RF.mul h1 h2 (by decide)) hK
     refine RegG.ca (φ:=RF (falTo (atF vs) (wtF vs) k (j - 1)+vj.2.1*(vk.1 - vj.1)) (kq+(4194400+(4194400+4194400+1))+1)) [5,25] (RF.stays _ _) (fun w hb=>?_) ?_
     .
      intro v2 h2;intro K hK;go_simp;exact Makes.use (RF.add (FF0.o.below hb) h2 (by omega)) hK
     refine RegG.pu (c:=?_) [0,1] (fun w hb=>?_) ?_;rotate_left
     .
      intro K hK;go_simp;exact hK
     refine RegG.last (by simp only[List.nil_append,List.cons_append,List.length_append,List.length_cons,List.length_nil,Nat.reduceAdd]) (by rfl) (by rfl) (by kernel_rfl) (fun u9 hb=>?_);simp only[FinG,List.nil_append,List.cons_append,Qak,Act.put,List.setIfInBounds_toArray,List.set_cons_zero,List.set_cons_succ,Nat.reduceAdd,Nat.reduceBEq,cond_true,cond_false];intro v11 _ v17 _ v23 _ v24 _ v25 _ v26 h26 K9 hK9;obtain⟨bq,rfl,hrv,hfit,hk0⟩:=h26;have hfb:=HFY.o.below hb;have cf:=hfb.at (i:=k) (t:=(b,falTo (atF vs) (wtF vs) k (j - 1),kq)) HLK.o;simp only[ptrV] at cf;have f0:=hfb.blk.free k;obtain⟨hnew,ho⟩:=hfb.anew (t:=(bq,falTo (atF vs) (wtF vs) k (j+1 - 1),kq+(4194400+(4194400+4194400+1))+1)) ⟨by rw[<-HFE.o];exact hrv,by rw[<-HFE.o];exact hfit,Nat.succ_pos _⟩;rw[HTL.o] at hnew ho;obtain⟨U2,hU⟩:∃U,u9.setCell ⟨g,k,none⟩ (.pointer (some ⟨bq,0,none⟩))=U:=⟨_,rfl⟩;simp only[ptrV] at hnew ho
     rw[hU] at hnew ho;obtain⟨HNEW2,HBU2,HUE2⟩:=Ib hnew (Only.fresh (HBY.o.trans (hb.mono HBY.o.size)) ho (Nat.le_of_eq HGE.o)) hU;clear hb hrv hfit hk0 hfb hnew ho hU;go_simp;rw[HUE2.o];refine hK9 _ _ ?_;clear hK9 cf f0;go_wp2;go_roundw
     case rel=>refine⟨j+1,bq,kq+(4194400+(4194400+4194400+1))+1,by omega,Or.inl (by omega),by go_num,HNEW2.o,?_,HBU2.o⟩;have h9:=HKE.o;omega
     case measure=>simp[intOf];omega
    .
     have q2:¬((j:Int)<(k:Int)):=by omega
     go_wp2;go_roundw
     case rel=>
      refine⟨k+1,_,by omega,by go_num,HFJ.o,by simp[HTL.o],fun i t ht=>?_,HBJ.o⟩;rcases Nat.lt_or_ge i k with hi|hi
      . rw[List.getElem?_append_left (by rw[HTL.o];exact hi)] at ht
        exact HTV.o i t ht
      .
       have hil:=(gZ ht).1;rw[List.length_append,HTL.o] at hil;obtain rfl:i=k:=by simp at hil;omega
       rw[List.getElem?_append_right (by rw[HTL.o];exact Nat.le_refl _),HTL.o,Nat.sub_self] at ht;cases ht;refine⟨?_,?_⟩
       .
        show falTo _ _ i (j - 1)=fallF vs i
        unfold fallF;rw[show j - 1=i - 1 by omega]
       .
        show kq<=_
        have:=HKE.o;have:j - 1<=8:=by omega
        have:=Nat.mul_le_mul_right (4194400+(4194400+4194400+1)+1) this;omega
     case measure=>simp[intOf];omega
  .
   obtain rfl:n=k:=by omega
   have HT0:O (TwoS wr (g+1) (.slice none 0 0) (.slice none 0 0) [] []):=Hi (TwoS.nil _ _);go_wp2_with fail;go_loopw [70,8,9] (fun iv lv hv wr=>∃(i:Nat) (ps:List (Nat × Nat)) (lo hi:List SD),i<=n/\iv=.int .i64 i/\TwoS wr (g+1) lv hv lo hi/\SideV (loS vs) 250000000 ps lo/\SideV (hiS vs) 250000000 ps hi/\PrsO n i ps/\ps.length<=i*10/\FAt wr g n ts/\Below w.heap.size w wr) (fun iv _ _ _=>n - (intOf iv).toNat)
   case atStart=>exact⟨0,[],[],[],Nat.zero_le _,rfl,HT0.o,SideV.nil _ _,SideV.nil _ _,PrsO.zero _,Nat.zero_le _,HFA.o,HBW.o⟩
   case round=>
    obtain⟨i,ps,lo,hi,hin,rfl,htw,hsl,hsh,hps,hpl,hfa,hbw⟩:=hrel;obtain⟨HTW,HSLO,HSHI,HPS,HPL,HFB,HBX⟩:=If htw hsl hsh hps hpl hfa hbw;clear htw hsl hsh hps hpl hfa hbw HT0 HFA HBW;by_cases hil:i<n
    .
     have q1:((i:Int)<(n:Int)):=by omega
     go_wp2_with fail;go_loopw [11,8,9] (fun jv lv hv wr=>∃(j:Nat) (ps:List (Nat × Nat)) (lo hi:List SD),i+1<=j/\j<=n/\jv=.int .i64 j/\TwoS wr (g+1) lv hv lo hi/\SideV (loS vs) 250000000 ps lo/\SideV (hiS vs) 250000000 ps hi/\PrsI n i j ps/\ps.length<=i*10+j/\FAt wr g n ts/\Below w.heap.size w wr) (fun jv _ _ _=>n - (intOf jv).toNat)
     case atStart=>exact⟨i+1,ps,lo,hi,Nat.le_refl _,hil,by go_num,HTW.o,HSLO.o,HSHI.o,HPS.o.inner,by have:=HPL.o;omega,HFB.o,HBX.o⟩
     case round=>
      obtain⟨j,ps,lo,hi,hij,hjn,rfl,htw,hsl,hsh,hps,hpl,hfa,hbw⟩:=hrel;obtain⟨HTJ0,HSLJ,HSHJ,HPSJ,HPLJ,HFJ,HBJ⟩:=If htw hsl hsh hps hpl hfa hbw;clear htw hsl hsh hps hpl hfa hbw HTW HSLO HSHI HPS HPL HFB HBX;by_cases hjl:j<n
      .
       have q2:((j:Int)<(n:Int)):=by omega
       obtain⟨si,hsi⟩:∃s,ss[i]?=some s:=⟨ss[i]'(by have:=HSL.o;omega),gE _⟩;obtain⟨sj,hsj⟩:∃s,ss[j]?=some s:=⟨ss[j]'(by have:=HSL.o;omega),gE _⟩;obtain⟨vi,hvi⟩:∃v,vs[i]?=some v:=⟨vs[i]'(by have:=HVL.o;omega),gE _⟩;obtain⟨vj,hvj⟩:∃v,vs[j]?=some v:=⟨vs[j]'(by have:=HVL.o;omega),gE _⟩;obtain⟨ti,hti⟩:∃t,ts[i]?=some t:=⟨ts[i]'(by have:=HTL.o;omega),gE _⟩;obtain⟨tj,htj⟩:∃t,ts[j]?=some t:=⟨ts[j]'(by have:=HTL.o;omega),gE _⟩;obtain⟨HVI,HVJ⟩:=Ia (HV.o.each i si vi hsi hvi) (HV.o.each j sj vj hsj hvj);have ai:atF vs i=vi.1:=by simp[atF,hvi]
       have aj:atF vs j=vj.1:=by simp[atF,hvj]
       have li:loF vs i=vi.2.2.1:=by simp[loF,hvi]
       have lj:loF vs j=vj.2.2.1:=by simp[loF,hvj]
       have ui:hiF vs i=vi.2.2.2:=by simp[hiF,hvi]
       have uj:hiF vs j=vj.2.2.2:=by simp[hiF,hvj]
       have hlt:vi.1<vj.1:=by
        rw[<-ai,<-aj];exact HR.o i j (by omega) (by have:=HVL.o;omega)
       have HNE:O (vj.1 - vi.1≠0):=Hi (Qlz hlt);have HLE:O (loS vs (i,j)=((vj.2.2.1 - vi.2.2.2) / (vj.1 - vi.1),(fallF vs j - fallF vs i) / (vj.1 - vi.1))):=Hi (by
        simp only[loS,ai,aj,lj,ui])
       have HHE:O (hiS vs (i,j)=((vj.2.2.2 - vi.2.2.1) / (vj.1 - vi.1),(fallF vs j - fallF vs i) / (vj.1 - vi.1))):=Hi (by
        simp only[hiS,ai,aj,uj,li])
       obtain⟨la,lc,hlv⟩:=HTJ0.o.a.slice;obtain⟨ha,hc,hhv⟩:=HTJ0.o.b.slice;subst hlv hhv;obtain⟨Y,hY⟩:=nm wr.drew;have hby:Below wr.heap.size wr Y:=by rw[<-hY];exact(Below.refl _ _).drew
       have HBY:=Hi (HBJ.o.trans (hby.mono HBJ.o.size));obtain⟨HGY,HTY,HFY0⟩:=Ib (HG.o.below HBY.o) (HTJ0.o.below hby) (HFJ.o.below hby);obtain⟨lb,lof,rfl,_⟩:=HRW.o.stone hsj;obtain⟨HRY,HSI,HSJ,HTI,HTJ,HYE⟩:=Ie (HRW.o.below HBY.o) hsi hsj hti htj hY;clear hsi hsj hvi hvj hti htj ai aj li lj ui uj hlt hY hby HTJ0 HFJ HBJ;go_wp2_with fail;refine RegG.bg 14 (fun j=>some (bif j == 13 then 12 else 81+j)) ?_;rw[HYE.o];refine RegG.pu (c:=?_) [] (fun w hb=>?_) ?_;rotate_left
       .
        intro K hK;go_simp;exact hK
       refine RegG.pu (c:=?_) [] (fun w hb=>?_) ?_;rotate_left
       .
        intro K hK;go_simp;exact hK
       refine RegG.pu (c:=?_) [0,1] (fun w hb=>?_) ?_;rotate_left
       .
        intro K hK;go_simp;exact hK
       refine RegG.pu (c:=?_) [2] (fun w hb=>?_) ?_;rotate_left
       .
        intro K hK;go_simp;exact hK
       refine RegG.pu (c:=?_) [3] (fun w hb=>?_) ?_;rotate_left
       .
        intro K hK;obtain⟨_,_,e1,_,c0,c1,c2,c3⟩:=(HRY.o.below hb).stone HSJ.o;cases e1;go_simp;exact hK
       refine RegG.ca (φ:=RF vj.1 4194400) [4] (RF.stays _ _) (fun w hb=>?_) ?_
       .
        intro K hK;go_simp;exact Makes.use (RF.of (HGY.o.below hb) HVJ.o.a HVJ.o.za.1 HVJ.o.za.2 (by decide)) hK
       refine RegG.pu (c:=?_) [] (fun w hb=>?_) ?_;rotate_left
       .
        intro K hK;go_simp;exact hK
       refine RegG.pu (c:=?_) [] (fun w hb=>?_) ?_;rotate_left
       .
        intro K hK;go_simp;exact hK
       refine RegG.pu (c:=?_) [6,7] (fun w hb=>?_) ?_;rotate_left
       .
        intro K hK;go_simp;exact hK
       refine RegG.pu (c:=?_) [8] (fun w hb=>?_) ?_;rotate_left
       .
        intro K hK;go_simp;exact hK
       refine RegG.pu (c:=?_) [9] (fun w hb=>?_) ?_;rotate_left
       .
        intro K hK;obtain⟨_,_,e1,_,c0,c1,c2,c3⟩:=(HRY.o.below hb).stone HSI.o;cases e1;go_simp;exact hK
       refine RegG.ca (φ:=RF vi.1 4194400) [10] (RF.stays _ _) (fun w hb=>?_) ?_
       .
        intro K hK;go_simp;exact Makes.use (RF.of (HGY.o.below hb) HVI.o.a HVI.o.za.1 HVI.o.za.2 (by decide)) hK
       refine RegG.ca (φ:=RF (vj.1 - vi.1) (4194400+4194400+1)) [5,11] (RF.stays _ _) (fun w hb=>?_) ?_
       .
        intro v1 h1 v2 h2;intro K hK;go_simp;exact Makes.use (RF.sub h1 h2 (by decide)) hK
       refine RegG.ca (φ:=RF (vj.1 - vi.1) (4194400+4194400+1)) [12] (RF.stays _ _) (fun w hb=>?_) ?_
       .
        intro vq hq K hK;go_simp;exact hK _ _ bR hq
       refine RegG.fi (fun u9 hb=>?_);intro v5 _ v11 _ v12 _ v13 h13;obtain⟨bd,rfl,h13⟩:=h13;have HD0:O (RF (vj.1 - vi.1) (4194400+4194400+1) (.pointer (some ⟨bd,0,none⟩)) u9):=Hi ⟨bd,rfl,h13⟩;clear HYE;obtain⟨Y2,hY⟩:∃Y,u9.drew=Y:=⟨_,rfl⟩;have hby:Below u9.heap.size u9 Y2:=by rw[<-hY];exact(Below.refl _ _).drew
       have hyy:=hb.trans (hby.mono hb.size);obtain⟨HBY2,HTY2,HFY,HD1,HYE⟩:=Id (HBY.o.trans (hyy.mono HBY.o.size)) (HTY.o.below hyy) (HFY0.o.below hyy) (HD0.o.below hby) hY;obtain⟨FI,FJ⟩:=Ia ((HFY.o.num HTI.o).more (HTV.o i ti HTI.o).2) ((HFY.o.num HTJ.o).more (HTV.o j tj HTJ.o).2);rw[(HTV.o i ti HTI.o).1] at FI;rw[(HTV.o j tj HTJ.o).1] at FJ;clear hb hY hby hyy h13 HD0 HBY HTY HFY0 HGY HRY;go_wp2_with fail;refine RegG.bg 12 (fun j=>some (bif j == 11 then 13 else 94+j)) ?_;rw[HYE.o];refine RegG.pu (c:=?_) [] (fun w hb=>?_) ?_;rotate_left
       .
        intro K hK;go_simp;exact hK
       refine RegG.pu (c:=?_) [] (fun w hb=>?_) ?_;rotate_left
       .
        intro K hK;go_simp;exact hK
       refine RegG.pu (c:=?_) [0,1] (fun w hb=>?_) ?_;rotate_left
       .
        intro K hK;go_simp;exact hK
       refine RegG.pu (c:=?_) [2] (fun w hb=>?_) ?_;rotate_left
       .
        intro K hK;have cf:=(HFY.o.below hb).at (i:=j) HTJ.o;simp only[ptrV] at cf;go_simp;exact hK
       refine RegG.pu (c:=?_) [] (fun w hb=>?_) ?_;rotate_left
       .
        intro K hK;go_simp;exact hK
       refine RegG.pu (c:=?_) [] (fun w hb=>?_) ?_;rotate_left
       .
        intro K hK;go_simp;exact hK
       refine RegG.pu (c:=?_) [4,5] (fun w hb=>?_) ?_;rotate_left
       .
        intro K hK;go_simp;exact hK
       refine RegG.pu (c:=?_) [6] (fun w hb=>?_) ?_;rotate_left
       .
        intro K hK;have cf:=(HFY.o.below hb).at (i:=i) HTI.o;simp only[ptrV] at cf;go_simp;exact hK
       refine RegG.ca (φ:=RF (fallF vs j - fallF vs i) (120000000+120000000+1)) [3,7] (RF.stays _ _) (fun w hb=>?_) ?_
       .
        intro K hK;go_simp;exact Makes.use (RF.sub (FJ.o.below hb) (FI.o.below hb) (by decide)) hK
       refine RegG.pu (c:=?_) [] (fun w hb=>?_) ?_;rotate_left
       .
        intro K hK;go_simp;exact hK
       refine RegG.ca (φ:=RF ((fallF vs j - fallF vs i) / (vj.1 - vi.1)) (120000000+120000000+1+(4194400+4194400+1))) [8,9] (RF.stays _ _) (fun w hb=>?_) ?_
       .
        intro v1 h1;intro K hK;go_simp;exact Makes.use (RF.quo h1 (HD1.o.below hb) HNE.o (by decide)) hK
       refine RegG.ca (φ:=RF ((fallF vs j - fallF vs i) / (vj.1 - vi.1)) (120000000+120000000+1+(4194400+4194400+1))) [10] (RF.stays _ _) (fun w hb=>?_) ?_
       .
        intro vq hq K hK;go_simp;exact hK _ _ bR hq
       refine RegG.fi (fun u9 hb=>?_);intro v8 _ v10 _ v11 h11;obtain⟨bk,rfl,h11⟩:=h11;have HK0:O (RF ((fallF vs j - fallF vs i) / (vj.1 - vi.1)) (120000000+120000000+1+(4194400+4194400+1)) (.pointer (some ⟨bk,0,none⟩)) u9):=Hi ⟨bk,rfl,h11⟩;clear HYE;obtain⟨Y3,hY⟩:∃Y,u9.drew=Y:=⟨_,rfl⟩;have hby:Below u9.heap.size u9 Y3:=by rw[<-hY];exact(Below.refl _ _).drew
       have hyy:=hb.trans (hby.mono hb.size);obtain⟨HBY3,HTY3,HFY3,HD,HK⟩:=Id (HBY2.o.trans (hyy.mono HBY2.o.size)) (HTY2.o.below hyy) (HFY.o.below hyy) (HD1.o.below hyy) (HK0.o.below hby);obtain⟨HGY,HRY,HYE⟩:=Ib (HG.o.below HBY3.o) (HRW.o.below HBY3.o) hY;clear hb hY hby hyy h11 HD1 HK0 HBY2 HTY2 HFY FI FJ;go_wp2_with fail;refine RegG.bg 19 (fun j=>some (105+j)) ?_;rw[HYE.o];refine RegG.pu (c:=?_) [] (fun w hb=>?_) ?_;rotate_left
       .
        intro K hK;go_simp;exact hK
       refine RegG.pu (c:=?_) [] (fun w hb=>?_) ?_;rotate_left
       .
        intro K hK;go_simp;exact hK
       refine RegG.pu (c:=?_) [] (fun w hb=>?_) ?_;rotate_left
       .
        intro K hK;go_simp;exact hK
       refine RegG.pu (c:=?_) [1,2] (fun w hb=>?_) ?_;rotate_left
       .
        intro K hK;go_simp;exact hK
       refine RegG.pu (c:=?_) [3] (fun w hb=>?_) ?_;rotate_left
       .
        intro K hK;go_simp;exact hK
       refine RegG.pu (c:=?_) [4] (fun w hb=>?_) ?_;rotate_left
       .
        intro K hK;obtain⟨_,_,e1,_,c0,c1,c2,c3⟩:=(HRY.o.below hb).stone HSJ.o;cases e1;go_simp;exact hK
       refine RegG.ca (φ:=RF vj.2.2.1 4194400) [5] (RF.stays _ _) (fun w hb=>?_) ?_
       .
        intro K hK;go_simp;exact Makes.use (RF.of (HGY.o.below hb) HVJ.o.l HVJ.o.zl.1 HVJ.o.zl.2 (by decide)) hK
       refine RegG.pu (c:=?_) [] (fun w hb=>?_) ?_;rotate_left
       .
        intro K hK;go_simp;exact hK
       refine RegG.pu (c:=?_) [] (fun w hb=>?_) ?_;rotate_left
       .
        intro K hK;go_simp;exact hK
       refine RegG.pu (c:=?_) [7,8] (fun w hb=>?_) ?_;rotate_left
       .
        intro K hK;go_simp;exact hK
       refine RegG.pu (c:=?_) [9] (fun w hb=>?_) ?_;rotate_left
       .
        intro K hK;go_simp;exact hK
       refine RegG.pu (c:=?_) [10] (fun w hb=>?_) ?_;rotate_left
       .
        intro K hK;obtain⟨_,_,e1,_,c0,c1,c2,c3⟩:=(HRY.o.below hb).stone HSI.o;cases e1;go_simp;exact hK
       refine RegG.ca (φ:=RF vi.2.2.2 4194400) [11] (RF.stays _ _) (fun w hb=>?_) ?_
       .
        intro K hK;go_simp;exact Makes.use (RF.of (HGY.o.below hb) HVI.o.h HVI.o.zh.1 HVI.o.zh.2 (by decide)) hK
       refine RegG.ca (φ:=RF (vj.2.2.1 - vi.2.2.2) (4194400+4194400+1)) [6,12] (RF.stays _ _) (fun w hb=>?_) ?_
       .
        intro v1 h1 v2 h2;intro K hK;go_simp;exact Makes.use (RF.sub h1 h2 (by decide)) hK
       refine RegG.pu (c:=?_) [] (fun w hb=>?_) ?_;rotate_left
       .
        intro K hK;go_simp;exact hK
       refine RegG.ca (φ:=RF ((vj.2.2.1 - vi.2.2.2) / (vj.1 - vi.1)) (4194400+4194400+1+(4194400+4194400+1))) [13,14] (RF.stays _ _) (fun w hb=>?_) ?_
       .
        intro v1 h1;intro K hK;go_simp;exact Makes.use (RF.quo h1 (HD.o.below hb) HNE.o (by decide)) hK
       refine RegG.pu (c:=?_) [] (fun w hb=>?_) ?_;rotate_left
       .
        intro K hK;go_simp;exact hK
       refine RegG.ca (φ:=AggF ((vj.2.2.1 - vi.2.2.2) / (vj.1 - vi.1)) bk) [15,16] (AggF.stays _ _) (fun w hb=>?_) ?_
       .
        intro vq hq K hK;obtain⟨bc,rfl,hq⟩:=hq;go_simp;exact hK _ _ bR ⟨bc,rfl,bc,rfl,hq⟩
       refine RegG.ca (φ:=OneF ((vj.2.2.1 - vi.2.2.2) / (vj.1 - vi.1)) bk) [17] (OneF.stays _ _) (fun w hb=>?_) ?_
       .
        intro vq hq K hK;obtain⟨bc,rfl,hq⟩:=hq;go_simp;exact hK _ _ (bR.alloc lZ _) ⟨_,bc,rfl,SB.new w _ _,hq.below (bR.alloc lZ _)⟩
       refine RegG.two (by simp only[List.nil_append,List.cons_append,List.length_append,List.length_cons,List.length_nil,Nat.reduceAdd]) (by rfl) (by simp only[List.getElem?_toArray,List.getElem?_cons_zero,List.getElem?_cons_succ];exact rfl) (by simp only[List.getElem?_toArray,List.getElem?_cons_zero,List.getElem?_cons_succ];exact rfl) (by kernel_rfl) (fun u9 hb=>?_);simp only[FinG,List.nil_append,List.cons_append,Qak,Act.put,List.setIfInBounds_toArray,List.set_cons_zero,List.set_cons_succ,Nat.reduceAdd,Nat.reduceBEq,cond_true,cond_false];intro v6 _ v12 _ v13 _ v15 _ v17 _ v18 h18 hap;clear hap;obtain⟨nb,bc,rfl,hsb,hrc⟩:=h18;have hrk:=HK.o.below hb;obtain⟨v9,w9,happ,htw,hfp,hbl⟩:=(HTY3.o.below hb).app (Qgr hrc hrk) hsb (by have:=HSLJ.o.1;have:=HPLJ.o;omega) (HFY3.o.below hb).blk.lt 86 (c:=1);obtain⟨HTW9,HFY9⟩:=Ia htw ((HFY3.o.below hb).fp hbl (Nat.lt_succ_self _) hfp)
       obtain⟨HRD9,HRK9,HRC9⟩:=Ib (RF.fp (HD.o.below hb) hfp) (RF.fp hrk hfp) (RF.fp hrc hfp);have HB9:O (Below w.heap.size w w9):=Hi ((HBY3.o.trans (hb.mono HBY3.o.size)).trans (hbl.mono (by have:=HGE.o;omega)));clear htw hfp hbl hrk hrc hsb hb HYE HD HK HBY3 HTY3 HFY3 HGY HRY;intro K1 hK1;go_simp;refine hK1 _ _ ?_;clear hK1 happ;intro K2 hK2;go_simp;refine hK2 _ _ ?_;clear hK2;obtain⟨Y4,hY⟩:∃Y,w9.drew=Y:=⟨_,rfl⟩;have hby:Below w9.heap.size w9 Y4:=by rw[<-hY];exact(Below.refl _ _).drew
       obtain⟨HBY4,HTY4,HFY4,HD,HK⟩:=Id (HB9.o.trans (hby.mono HB9.o.size)) (HTW9.o.below hby) (HFY9.o.below hby) (HRD9.o.below hby) (HRK9.o.below hby);obtain⟨HGY,HRY,HYE⟩:=Ib (HG.o.below HBY4.o) (HRW.o.below HBY4.o) hY;clear hY hby HB9 HTW9 HFY9 HRD9 HRK9 HRC9;go_wp2_with fail;refine RegG.bg 19 (fun j=>some (125+j)) ?_;rw[HYE.o];refine RegG.pu (c:=?_) [] (fun w hb=>?_) ?_;rotate_left
       .
        intro K hK;go_simp;exact hK
       refine RegG.pu (c:=?_) [] (fun w hb=>?_) ?_;rotate_left
       .
        intro K hK;go_simp;exact hK
       refine RegG.pu (c:=?_) [] (fun w hb=>?_) ?_;rotate_left
       .
        intro K hK;go_simp;exact hK
       refine RegG.pu (c:=?_) [1,2] (fun w hb=>?_) ?_;rotate_left
       .
        intro K hK;go_simp;exact hK
       refine RegG.pu (c:=?_) [3] (fun w hb=>?_) ?_;rotate_left
       .
        intro K hK;go_simp;exact hK
       refine RegG.pu (c:=?_) [4] (fun w hb=>?_) ?_;rotate_left
       .
        intro K hK;obtain⟨_,_,e1,_,c0,c1,c2,c3⟩:=(HRY.o.below hb).stone HSJ.o;cases e1;go_simp;exact hK
       refine RegG.ca (φ:=RF vj.2.2.2 4194400) [5] (RF.stays _ _) (fun w hb=>?_) ?_
       .
        intro K hK;go_simp;exact Makes.use (RF.of (HGY.o.below hb) HVJ.o.h HVJ.o.zh.1 HVJ.o.zh.2 (by decide)) hK
       refine RegG.pu (c:=?_) [] (fun w hb=>?_) ?_;rotate_left
       .
        intro K hK;go_simp;exact hK
       refine RegG.pu (c:=?_) [] (fun w hb=>?_) ?_;rotate_left
       .
        intro K hK;go_simp;exact hK
       refine RegG.pu (c:=?_) [7,8] (fun w hb=>?_) ?_;rotate_left
       .
        intro K hK;go_simp;exact hK
       refine RegG.pu (c:=?_) [9] (fun w hb=>?_) ?_;rotate_left
       .
        intro K hK;go_simp;exact hK
       refine RegG.pu (c:=?_) [10] (fun w hb=>?_) ?_;rotate_left
       .
        intro K hK;obtain⟨_,_,e1,_,c0,c1,c2,c3⟩:=(HRY.o.below hb).stone HSI.o;cases e1;go_simp;exact hK
       refine RegG.ca (φ:=RF vi.2.2.1 4194400) [11] (RF.stays _ _) (fun w hb=>?_) ?_
       .
        intro K hK;go_simp;exact Makes.use (RF.of (HGY.o.below hb) HVI.o.l HVI.o.zl.1 HVI.o.zl.2 (by decide)) hK
       refine RegG.ca (φ:=RF (vj.2.2.2 - vi.2.2.1) (4194400+4194400+1)) [6,12] (RF.stays _ _) (fun w hb=>?_) ?_
       .
        intro v1 h1 v2 h2;intro K hK;go_simp;exact Makes.use (RF.sub h1 h2 (by decide)) hK
       refine RegG.pu (c:=?_) [] (fun w hb=>?_) ?_;rotate_left
       .
        intro K hK;go_simp;exact hK
       refine RegG.ca (φ:=RF ((vj.2.2.2 - vi.2.2.1) / (vj.1 - vi.1)) (4194400+4194400+1+(4194400+4194400+1))) [13,14] (RF.stays _ _) (fun w hb=>?_) ?_
       .
        intro v1 h1;intro K hK;go_simp;exact Makes.use (RF.quo h1 (HD.o.below hb) HNE.o (by decide)) hK
       refine RegG.pu (c:=?_) [] (fun w hb=>?_) ?_;rotate_left
       .
        intro K hK;go_simp;exact hK
       refine RegG.ca (φ:=AggF ((vj.2.2.2 - vi.2.2.1) / (vj.1 - vi.1)) bk) [15,16] (AggF.stays _ _) (fun w hb=>?_) ?_
       .
        intro vq hq K hK;obtain⟨bc,rfl,hq⟩:=hq;go_simp;exact hK _ _ bR ⟨bc,rfl,bc,rfl,hq⟩
       refine RegG.ca (φ:=OneF ((vj.2.2.2 - vi.2.2.1) / (vj.1 - vi.1)) bk) [17] (OneF.stays _ _) (fun w hb=>?_) ?_
       .
        intro vq hq K hK;obtain⟨bc,rfl,hq⟩:=hq;go_simp;exact hK _ _ (bR.alloc lZ _) ⟨_,bc,rfl,SB.new w _ _,hq.below (bR.alloc lZ _)⟩
       refine RegG.two (by simp only[List.nil_append,List.cons_append,List.length_append,List.length_cons,List.length_nil,Nat.reduceAdd]) (by rfl) (by simp only[List.getElem?_toArray,List.getElem?_cons_zero,List.getElem?_cons_succ];exact rfl) (by simp only[List.getElem?_toArray,List.getElem?_cons_zero,List.getElem?_cons_succ];exact rfl) (by kernel_rfl) (fun u9 hb=>?_);simp only[FinG,List.nil_append,List.cons_append,Qak,Act.put,List.setIfInBounds_toArray,List.set_cons_zero,List.set_cons_succ,Nat.reduceAdd,Nat.reduceBEq,cond_true,cond_false];intro v6 _ v12 _ v13 _ v15 _ v17 _ v18 h18 hap;clear hap;obtain⟨nb,bc,rfl,hsb,hrc⟩:=h18;have hrk:=HK.o.below hb;obtain⟨v10,w10,happ,htw,hfp,hbl⟩:=(HTY4.o.turn.below hb).app (Qgr hrc hrk) hsb (by have:=HSHJ.o.1;have:=HPLJ.o;omega) (HFY4.o.below hb).blk.lt 86 (c:=1);have HTWX:=Hi htw.turn
       have HFYX:=Hi ((HFY4.o.below hb).fp hbl (Nat.lt_succ_self _) hfp);have HBXX:O (Below w.heap.size w w10):=Hi ((HBY4.o.trans (hb.mono HBY4.o.size)).trans (hbl.mono (by have:=HGE.o;omega)));clear htw hfp hbl hrk hrc hsb hb HYE HD HK HBY4 HTY4 HFY4 HGY HRY;intro K1 hK1;go_simp;refine hK1 _ _ ?_;clear hK1 happ;intro K2 hK2;go_simp;refine hK2 _ _ ?_;clear hK2;go_wp2;go_roundw
       case rel=>
        refine⟨j+1,ps++ [(i,j)],_,_,by omega,by omega,by go_num,HTWX.o,HSLJ.o.snoc ?_ ?_ ?_ ?_,HSHJ.o.snoc ?_ ?_ ?_ ?_,HPSJ.o.step (by omega),?_,HFYX.o,HBXX.o⟩
        . rw[HLE.o]
        . rw[HLE.o]
        . show 4194400+4194400+1+(4194400+4194400+1)<=250000000;decide
        . show 120000000+120000000+1+(4194400+4194400+1)<=250000000;decide
        . rw[HHE.o]
        . rw[HHE.o]
        . show 4194400+4194400+1+(4194400+4194400+1)<=250000000;decide
        . show 120000000+120000000+1+(4194400+4194400+1)<=250000000;decide
        .
         have:=HPLJ.o;rw[List.length_append,List.length_singleton];omega
       case measure=>simp[intOf];omega
      .
       obtain rfl:n=j:=by omega
       go_wp2;go_roundw
       case rel=>
        refine⟨i+1,ps,lo,hi,by omega,by go_num,HTJ0.o,HSLJ.o,HSHJ.o,HPSJ.o.done,?_,HFJ.o,HBJ.o⟩;have:=HPLJ.o;omega
       case measure=>simp[intOf];omega
    .
     obtain rfl:n=i:=by omega
     obtain⟨N,hN⟩:=nm ps.length;obtain⟨la,lc,hlv⟩:=HTW.o.a.slice;obtain⟨ha,hc,hhv⟩:=HTW.o.b.slice;rw[HSLO.o.1,hN] at hlv;rw[HSHI.o.1,hN] at hhv;subst hlv hhv;have HNE:=Hi hN;have hN9:N<=100:=by have:=HPL.o;omega
     clear hN;go_wp2_with fail;refine(ref_N 0 wr (by decide)).mono ?_;intro e w1 hn1;obtain⟨vp,rfl,hb1,hz⟩:=hn1.makes (k:=1) (show Fits ((0:Nat):Rat) 1 from Fits.zero) (by decide);have HL0:O (RF 0 1000000002 vp w1):=Hi (RF.more hz (by decide));obtain⟨bn,rfl,_⟩:=hz;obtain⟨HTW1,HB1⟩:=Ia (HTW.o.below hb1) (HBX.o.trans (hb1.mono HBX.o.size));clear hn1 hb1 HTW HBX HFB;go_wp2_with fail;go_loopw [149,2,3,4] (fun iv lv mv kv wr=>∃(a:Nat) (l:Rat) (m:Option Rat) (ok:Bool) (bs:List Bnd),a<=N/\iv=.int .i64 a/\kv=.bool ok/\RF l 1000000002 lv wr/\MostV m 1000000002 mv wr/\RgI bs l m ok/\BsO vs ps a bs/\Below w1.heap.size w1 wr) (fun iv _ _ _ _=>N - (intOf iv).toNat)
     case atStart=>exact⟨0,0,none,true,[],Nat.zero_le _,rfl,rfl,HL0.o,rfl,RgI.begin,BsO.zero _ _,Below.refl _ _⟩
     case round=>
      obtain⟨a,l,m,ok,bs,haN,rfl,rfl,hrl,hmv,hrg,hbs,hbr⟩:=hrel;obtain⟨HRL,HMV,HRG,HBS,HBR⟩:=Id hrl hmv hrg hbs hbr;clear hrl hmv hrg hbs hbr HL0;by_cases hal:a<N
      .
       have q1:((a:Int)<(N:Int)):=by omega
       obtain⟨p,hp⟩:∃p,ps[a]?=some p:=⟨ps[a]'(by have:=HNE.o;omega),gE _⟩;obtain⟨sa,hsa⟩:∃s,lo[a]?=some s:=⟨lo[a]'(by have:=HNE.o;have:=HSLO.o.1;omega),gE _⟩;obtain⟨ea1,ea2,ea3,ea4⟩:=HSLO.o.2 a sa p hsa hp;obtain⟨fa1,fa2⟩:=(HTW1.o.below HBR.o).a.num hsa;obtain⟨HA1,HA2⟩:=Ia (fa1.more ea3) (fa2.more ea4);rw[ea1] at HA1;rw[ea2] at HA2;obtain⟨gl,ol,rfl,hgl,x0,x1⟩:=(HTW1.o.below HBR.o).a.at hsa;simp only[ptrV] at x0 x1;have HPA:=Hi hp;obtain⟨b15,hb15⟩:∃b,wr.heap.size=b:=⟨_,rfl⟩;obtain⟨V1,hV1⟩:∃V,wr.alloc (.cells #[.pointer (some ⟨sa.1.1,0,none⟩),.pointer (some ⟨sa.2.1,0,none⟩)] 88)=V:=⟨_,rfl⟩;have hbv:Below wr.heap.size wr V1:=by rw[<-hV1];exact(Below.refl _ _).alloc lZ _
       have H15:=Uf hV1 hb15;obtain⟨HRL1,HMV1,HA3,HA4,HBV,HVE1,HB15⟩:=If (HRL.o.below hbv) (HMV.o.below hbv) (HA1.o.below hbv) (HA2.o.below hbv) (HBR.o.trans (hbv.mono HBR.o.size)) hV1 hb15;clear hp hsa ea1 ea2 ea3 ea4 fa1 fa2 hV1 hb15 hbv HA1 HA2 HRL HMV HBR;go_wp2_with fail;rw[HVE1.o];simp only[HB15.o];clear x0 x1;go_loopw [155,2,3,4] (fun jv lv mv kv wr=>∃(c:Nat) (l:Rat) (m:Option Rat) (ok:Bool) (bs:List Bnd),c<=N/\jv=.int .i64 c/\kv=.bool ok/\RF l 1000000002 lv wr/\MostV m 1000000002 mv wr/\RgI bs l m ok/\BsI vs ps a c bs/\Below V1.heap.size V1 wr) (fun jv _ _ _ _=>N - (intOf jv).toNat)
       case atStart=>exact⟨0,l,m,ok,bs,Nat.zero_le _,rfl,rfl,HRL1.o,HMV1.o,HRG.o,HBS.o.inner,Below.refl _ _⟩
       case round=>
        obtain⟨c,l,m,ok,bs,hcN,rfl,rfl,hrl,hmv,hrg,hbs,hbr⟩:=hrel;obtain⟨HRL,HMV,HRGI,HBSI,HBR⟩:=Id hrl hmv hrg hbs hbr;clear hrl hmv hrg hbs hbr HRL1 HMV1 HRG HBS;by_cases hcl:c<N
        .
         have q2:((c:Int)<(N:Int)):=by omega
         obtain⟨q,hq⟩:∃q,ps[c]?=some q:=⟨ps[c]'(by have:=HNE.o;omega),gE _⟩;obtain⟨sb,hsb⟩:∃s,hi[c]?=some s:=⟨hi[c]'(by have:=HNE.o;have:=HSHI.o.1;omega),gE _⟩;obtain⟨ea1,ea2,ea3,ea4⟩:=HSHI.o.2 c sb q hsb hq;have hb1r:=HBV.o.trans (HBR.o.mono HBV.o.size);obtain⟨fa1,fa2⟩:=(HTW1.o.below hb1r).b.num hsb;obtain⟨HA1,HA2⟩:=Ia (fa1.more ea3) (fa2.more ea4);rw[ea1] at HA1;rw[ea2] at HA2;obtain⟨gh,oh,rfl,hgh,x0,x1⟩:=(HTW1.o.below hb1r).b.at hsb;simp only[ptrV] at x0 x1;obtain⟨b17,hb17⟩:∃b,wr.heap.size=b:=⟨_,rfl⟩;obtain⟨V2,hV2⟩:∃V,wr.alloc (.cells #[.pointer (some ⟨sb.1.1,0,none⟩),.pointer (some ⟨sb.2.1,0,none⟩)] 88)=V:=⟨_,rfl⟩;have hbv:Below wr.heap.size wr V2:=by rw[<-hV2];exact(Below.refl _ _).alloc lZ _
         obtain⟨Y,hY⟩:=nm V2.drew;have hvy:Below V2.heap.size V2 Y:=by rw[<-hY];exact(Below.refl _ _).drew
         have hry:=hbv.trans (hvy.mono hbv.size);have h17:SB V2 b17 88 #[.pointer (some ⟨sb.1.1,0,none⟩),.pointer (some ⟨sb.2.1,0,none⟩)]:=by rw[<-hV2,<-hb17];exact SB.new wr _ _
         obtain⟨HY17,HBY⟩:=Ia (h17.below hvy h17.lt) (HBR.o.trans (hry.mono HBR.o.size));obtain⟨HY15,HX1,HX2,HX3,HX4,HRLY,HMVY,HBSN,HVE2⟩:=Ih (H15.o.below HBY.o H15.o.lt) (HA3.o.below HBY.o) (HA4.o.below HBY.o) (HA1.o.below hry) (HA2.o.below hry) (HRL.o.below hry) (HMV.o.below hry) (HBSI.o.step HPA.o hq) hV2;obtain⟨HB17,HYE⟩:=Ia hb17 hY;clear hq hsb ea1 ea2 ea3 ea4 hb1r fa1 fa2 hV2 hb17 hbv hY hvy hry h17 HA1 HA2 HRL HMV HBR HBSI;go_wp2_with fail;rw[HVE2.o];simp only[HB17.o];clear x0 x1;refine RegG.bg 12 (fun j=>some (bif j == 10 then 18 else bif j == 11 then 19 else 159+j)) ?_;rw[HYE.o];refine RegG.pu (c:=?_) [] (fun w hb=>?_) ?_;rotate_left
         .
          intro K hK;go_simp;exact hK
         refine RegG.pu (c:=?_) [0] (fun w hb=>?_) ?_;rotate_left
         .
          intro K hK;have cx:=(HY17.o.below hb HY17.o.lt).cell 0;have cy:=(HY17.o.below hb HY17.o.lt).cell 1;simp only[List.getElem?_toArray,List.getElem?_cons_zero,List.getElem?_cons_succ] at cx cy;go_simp;exact hK
         refine RegG.pu (c:=?_) [] (fun w hb=>?_) ?_;rotate_left
         .
          intro K hK;go_simp;exact hK
         refine RegG.pu (c:=?_) [2] (fun w hb=>?_) ?_;rotate_left
         .
          intro K hK;have cx:=(HY15.o.below hb HY15.o.lt).cell 0;have cy:=(HY15.o.below hb HY15.o.lt).cell 1;simp only[List.getElem?_toArray,List.getElem?_cons_zero,List.getElem?_cons_succ] at cx cy;go_simp;exact hK
         refine RegG.ca (φ:=RF ((hiS vs q).1 - (loS vs p).1) (250000000+250000000+1)) [1,3] (RF.stays _ _) (fun w hb=>?_) ?_
         .
          intro K hK;go_simp;exact Makes.use (RF.sub (HX3.o.below hb) (HX1.o.below hb) (by decide)) hK
         refine RegG.pu (c:=?_) [] (fun w hb=>?_) ?_;rotate_left
         .
          intro K hK;go_simp;exact hK
         refine RegG.pu (c:=?_) [5] (fun w hb=>?_) ?_;rotate_left
         .
          intro K hK;have cx:=(HY15.o.below hb HY15.o.lt).cell 0;have cy:=(HY15.o.below hb HY15.o.lt).cell 1;simp only[List.getElem?_toArray,List.getElem?_cons_zero,List.getElem?_cons_succ] at cx cy;go_simp;exact hK
         refine RegG.pu (c:=?_) [] (fun w hb=>?_) ?_;rotate_left
         .
          intro K hK;go_simp;exact hK
         refine RegG.pu (c:=?_) [7] (fun w hb=>?_) ?_;rotate_left
         .
          intro K hK;have cx:=(HY17.o.below hb HY17.o.lt).cell 0;have cy:=(HY17.o.below hb HY17.o.lt).cell 1;simp only[List.getElem?_toArray,List.getElem?_cons_zero,List.getElem?_cons_succ] at cx cy;go_simp;exact hK
         refine RegG.ca (φ:=RF ((loS vs p).2 - (hiS vs q).2) (250000000+250000000+1)) [6,8] (RF.stays _ _) (fun w hb=>?_) ?_
         .
          intro K hK;go_simp;exact Makes.use (RF.sub (HX2.o.below hb) (HX4.o.below hb) (by decide)) hK
         refine RegG.ca (φ:=RF ((hiS vs q).1 - (loS vs p).1) (250000000+250000000+1)) [4] (RF.stays _ _) (fun w hb=>?_) ?_
         .
          intro vq hq K hK;go_simp;exact hK _ _ bR hq
         refine RegG.ca (φ:=RF ((loS vs p).2 - (hiS vs q).2) (250000000+250000000+1)) [9] (RF.stays _ _) (fun w hb=>?_) ?_
         .
          intro vq hq K hK;go_simp;exact hK _ _ bR hq
         refine RegG.fi (fun u9 hb=>?_);intro v4 _ v9 _ v10 h10 v11 h11;obtain⟨bc,rfl,h10⟩:=h10;obtain⟨bk,rfl,h11⟩:=h11;obtain⟨qc,hqc⟩:∃x,(hiS vs q).1 - (loS vs p).1=x:=⟨_,rfl⟩;obtain⟨qk,hqk⟩:∃x,(loS vs p).2 - (hiS vs q).2=x:=⟨_,rfl⟩;have HBD:O (bdOf vs p q=(qc,qk)):=Hi (by rw[<-hqc,<-hqk];rfl);have HC:O (RF qc (250000000+250000000+1) (.pointer (some ⟨bc,0,none⟩)) u9):=Hi (by rw[<-hqc];exact⟨bc,rfl,h10⟩);have HK:O (RF qk (250000000+250000000+1) (.pointer (some ⟨bk,0,none⟩)) u9):=Hi (by rw[<-hqk];exact⟨bk,rfl,h11⟩);obtain⟨HRLU,HMVU,HBU⟩:=Ib (HRLY.o.below hb) (HMVY.o.below hb) (HBY.o.trans (hb.mono HBY.o.size));rw[HBD.o] at HBSN;clear hb h10 h11 hqc hqk HX1 HX2 HX3 HX4 HRLY HMVY HBY HY15 HY17 HYE HBD;obtain⟨σ,hσ⟩:=nm (sgn3 qk.num);have HSE:=Hi hσ;have HSZ:O (σ=0↔qk=0):=Hi (by rw[<-hσ];exact Ql3 _);have HSG:O (0<σ↔0<qk):=Hi (by rw[<-hσ];exact Ql4 _);clear hσ
         go_wp2_with fail;refine Makes.use (RF.sign HK.o) ?_;rintro _ w4 hb4 rfl;rw[HSE.o];obtain⟨HC4,HK4,HRL4,HMV4,HB4⟩:=Id (HC.o.below hb4) (HK.o.below hb4) (HRLU.o.below hb4) (HMVU.o.below hb4) (HBU.o.trans (hb4.mono HBU.o.size));clear hb4 HC HK HRLU HMVU HBU;by_cases hz:σ=0
         .
          have e1:(σ == 0)=true:=by simp[hz]
          have e7:decide (σ=0)=true:=decide_eq_true hz;have HZ9:O (qk=0):=Hi (HSZ.o.1 hz);clear hz;have HRN:O (RgI (bs++ [(qc,qk)]) l m (ok && decide (0<=qc))):=Hi (by rw[HZ9.o];exact HRGI.o.zero);cases ok with
          |true=>
           go_wp2_with fail;refine Makes.use (RF.sign HC4.o) ?_;rintro _ w5 hb5 rfl;obtain⟨τ,hτ⟩:=nm (sgn3 qc.num);have HTE:O (decide (0<=τ)=decide (0<=qc)):=Hi (by rw[<-hτ];exact decide_eq_decide.2 (Qd7 _));rw[hτ];clear hτ;obtain⟨HRL5,HMV5,HB5⟩:=Ib (HRL4.o.below hb5) (HMV4.o.below hb5) (HB4.o.trans (hb5.mono HB4.o.size));clear hb5 HC4 HK4 HRL4 HMV4 HB4;go_wp2;go_roundw
           case rel=>exact⟨c+1,l,m,_,_,by omega,by go_num,rfl,HRL5.o,HMV5.o,by rw[HTE.o];exact HRN.o,HBSN.o,HB5.o⟩
           case measure=>simp[intOf];omega
          |false=>
           go_wp2;go_roundw
           case rel=>exact⟨c+1,l,m,false,_,by omega,by go_num,rfl,HRL4.o,HMV4.o,HRN.o,HBSN.o,HB4.o⟩
           case measure=>simp[intOf];omega
         .
          have e1:(σ == 0)=false:=by simp[hz]
          have e7:decide (σ=0)=false:=decide_eq_false hz;have HZ9:O (qk≠0):=Hi (fun h=>hz (HSZ.o.2 h));clear hz;go_wp2_with fail;refine Makes.use (RF.sign HK4.o) ?_;rintro _ w5 hb5 rfl;rw[HSE.o];obtain⟨HC5,HK5,HRL5,HMV5,HB5⟩:=Id (HC4.o.below hb5) (HK4.o.below hb5) (HRL4.o.below hb5) (HMV4.o.below hb5) (HB4.o.trans (hb5.mono HB4.o.size));clear hb5 HC4 HK4 HRL4 HMV4 HB4 e1 e7;by_cases hp:0<σ
          .
           have e1:decide (0<σ)=true:=decide_eq_true hp;have HPO:O (0<qk):=Hi (HSG.o.1 hp);clear hp;go_wp2_with fail;refine Makes.use (RF.quo HC5.o HK5.o HZ9.o (by decide)) ?_;rintro _ w6 hb6 hx6;have HX6:O (RF (qc / qk) 1000000002 _ w6):=Hi hx6;obtain⟨bx,rfl,_⟩:=hx6;obtain⟨HRL6,HMV6,HB6⟩:=Ib (HRL5.o.below hb6) (HMV5.o.below hb6) (HB5.o.trans (hb6.mono HB5.o.size));clear hb6 HC5 HK5 HRL5 HMV5 HB5 e1;have HRN:O (RgI (bs++ [(qc,qk)]) l (cutM m (qc / qk)) ok):=Hi (HRGI.o.high HPO.o);cases m with
           |none=>
            have hmn:_=Value.pointer none:=HMV6.o;subst hmn;go_wp2;go_roundw
            case rel=>exact⟨c+1,l,some (qc / qk),ok,_,by omega,by go_num,rfl,HRL6.o,HX6.o,HRN.o,HBSN.o,HB6.o⟩
            case measure=>simp[intOf];omega
           |some mq=>
            have hmn:RF mq 1000000002 _ w6:=HMV6.o;obtain⟨bm,hbm,_⟩:=hmn;subst hbm;go_wp2_with fail;obtain⟨C,hC⟩:=nm (cmpQ (qc / qk) mq);have HCE:=Hi hC;refine Makes.use (RF.cmp HX6.o (show RF mq 1000000002 (.pointer (some ⟨bm,0,none⟩)) w6 from HMV6.o) (by decide)) ?_;rintro _ w7 hb7 rfl;rw[hC];clear hC;obtain⟨HX7,HRL7,HMV7,HB7⟩:=Ic (HX6.o.below hb7) (HRL6.o.below hb7) (HMV6.o.below hb7) (HB6.o.trans (hb7.mono HB6.o.size));clear hb7 HX6 HRL6 HMV6 HB6;by_cases hc:C<0
            .
             have e2:decide (C<0)=true:=decide_eq_true hc;have HCM:O (cutM (some mq) (qc / qk)=some (qc / qk)):=Hi (if_pos ((Qao _ _).1 (by rw[HCE.o];exact hc)));clear hc;go_wp2;go_roundw
             case rel=>exact⟨c+1,l,some (qc / qk),ok,_,by omega,by go_num,rfl,HRL7.o,HX7.o,by rw[<-HCM.o];exact HRN.o,HBSN.o,HB7.o⟩
             case measure=>simp[intOf];omega
            .
             have e2:decide (C<0)=false:=decide_eq_false hc;have HCM:O (cutM (some mq) (qc / qk)=some mq):=Hi (if_neg (fun h=>hc (by rw[<-HCE.o];exact(Qao _ _).2 h)));clear hc;go_wp2;go_roundw
             case rel=>exact⟨c+1,l,some mq,ok,_,by omega,by go_num,rfl,HRL7.o,HMV7.o,by rw[<-HCM.o];exact HRN.o,HBSN.o,HB7.o⟩
             case measure=>simp[intOf];omega
          .
           have e1:decide (0<σ)=false:=decide_eq_false hp;have HPO:O (qk<0):=Hi (Qly HZ9.o (fun h=>hp (HSG.o.2 h)));clear hp;go_wp2_with fail;refine Makes.use (RF.quo HC5.o HK5.o HZ9.o (by decide)) ?_;rintro _ w6 hb6 hx6;have HX6:O (RF (qc / qk) 1000000002 _ w6):=Hi hx6;obtain⟨bx,rfl,_⟩:=hx6;obtain⟨HRL6,HMV6,HB6⟩:=Ib (HRL5.o.below hb6) (HMV5.o.below hb6) (HB5.o.trans (hb6.mono HB5.o.size));clear hb6 HC5 HK5 HRL5 HMV5 HB5 e1;have HRN:O (RgI (bs++ [(qc,qk)]) (cutL l (qc / qk)) m ok):=Hi (HRGI.o.low HPO.o);go_wp2_with fail;obtain⟨C,hC⟩:=nm (cmpQ (qc / qk) l);have HCE:=Hi hC;refine Makes.use (RF.cmp HX6.o HRL6.o (by decide)) ?_;rintro _ w7 hb7 rfl;rw[hC];clear hC;obtain⟨HX7,HRL7,HMV7,HB7⟩:=Ic (HX6.o.below hb7) (HRL6.o.below hb7) (HMV6.o.below hb7) (HB6.o.trans (hb7.mono HB6.o.size));clear hb7 HX6 HRL6 HMV6 HB6
           by_cases hc:0<C
           .
            have e2:decide (0<C)=true:=decide_eq_true hc;have HCM:O (cutL l (qc / qk)=qc / qk):=Hi (if_pos ((Qaz _ _).1 (by rw[HCE.o];exact hc)));clear hc;go_wp2;go_roundw
            case rel=>exact⟨c+1,qc / qk,m,ok,_,by omega,by go_num,rfl,HX7.o,HMV7.o,by rw[<-HCM.o];exact HRN.o,HBSN.o,HB7.o⟩
            case measure=>simp[intOf];omega
           .
            have e2:decide (0<C)=false:=decide_eq_false hc;have HCM:O (cutL l (qc / qk)=l):=Hi (if_neg (fun h=>hc (by rw[<-HCE.o];exact(Qaz _ _).2 h)));clear hc;go_wp2;go_roundw
            case rel=>exact⟨c+1,l,m,ok,_,by omega,by go_num,rfl,HRL7.o,HMV7.o,by have:=HRN.o;rw[HCM.o] at this;exact this,HBSN.o,HB7.o⟩
            case measure=>simp[intOf];omega
        .
         obtain rfl:N=c:=by omega
         have HBO:O (BsO vs ps (a+1) bs):=Hi (by have:=HBSI.o;rw[<-HNE.o] at this;exact this.done);have HB9:=Hi (HBV.o.trans (HBR.o.mono HBV.o.size));go_wp2;go_roundw
         case rel=>exact⟨a+1,l,m,ok,bs,by omega,by go_num,rfl,HRL.o,HMV.o,HRGI.o,HBO.o,HB9.o⟩
         case measure=>simp[intOf];omega
      .
       obtain rfl:N=a:=by omega
       obtain⟨HSAY,HB9⟩:=Ia (Ql5 HZ.o HRG.o (by rw[HNE.o];exact HBS.o) (by have:=HPS.o;rw[HVL.o];exact this)) (HB1.o.trans (HBR.o.mono HB1.o.size));cases ok with
       |false=>
        have HNL:=Hi (HSAY.o.2 rfl);clear HSAY;go_wp2;refine bodyPost_ret (results_tmp3 rfl _ _ _) rfl ?_;exact⟨_,_,false,l,m,rfl,HRL.o,HMV.o,HB9.o,Or.inr ⟨rfl,HNL.o⟩⟩
       |true=>
        have HIL:=Hi (HSAY.o.1 rfl);clear HSAY;cases m with
        |none=>
         have hmn:_=Value.pointer none:=HMV.o;subst hmn;go_wp2;refine bodyPost_ret (results_tmp3 rfl _ _ _) rfl ?_;exact⟨_,_,true,l,none,rfl,HRL.o,rfl,HB9.o,Or.inl ⟨rfl,⟨Rat.le_refl,fun m hm=>by cases hm⟩,HIL.o⟩⟩
        |some mq=>
         have hmn:RF mq 1000000002 _ wr:=HMV.o;obtain⟨bm,hbm,_⟩:=hmn;subst hbm;obtain⟨bl,hbl,_⟩:=HRL.o;subst hbl;go_wp2_with fail;obtain⟨C,hC⟩:=nm (cmpQ mq l);refine Makes.use (RF.cmp (show RF mq 1000000002 (.pointer (some ⟨bm,0,none⟩)) wr from HMV.o) HRL.o (by decide)) ?_;rintro _ w7 hb7 rfl;rw[hC];obtain⟨HCE,HRL7,HMV7,HB7⟩:=Ic hC (HRL.o.below hb7) (HMV.o.below hb7) (HB9.o.trans (hb7.mono HB9.o.size));clear hC hb7 HRL HMV HB9;go_wp2;refine bodyPost_ret (results_tmp3 rfl _ _ _) rfl ?_;refine⟨_,_,decide (0<=C),l,some mq,rfl,HRL7.o,HMV7.o,HB7.o,?_⟩;by_cases hc:0<=C
         . have hle:l<=mq:=Rat.not_lt.1 (fun h=>by have:=(Qao mq l).2 h;rw[HCE.o] at this;omega)
           exact Or.inl ⟨decide_eq_true hc,⟨Rat.le_refl,fun m hm=>by cases hm;exact hle⟩,HIL.o⟩
         .
          refine Or.inr ⟨decide_eq_false hc,fun h hh=>?_⟩;have hlt:mq<l:=(Qao mq l).1 (by rw[HCE.o];omega);obtain⟨h1,h2⟩:=(HIL.o h).2 hh;exact absurd (Rat.le_trans h1 (h2 mq rfl)) (Rat.not_le.2 hlt)
end Go.Proofs.YtldjeecnapgakaaGreatDoor
