/- rafterbig's Int: Text in tens, String. -/
import Derived.Test.YtbbkamnfjejceaaGreatDoorS13BigFresh
import Derived.Deep.AppendLies
import Derived.Laws.BytesArg
namespace Go.Proofs.YtbbkamnfjejceaaGreatDoor
open Go.RowKit
set_option linter.unusedVariables false
set_option linter.unusedSimpArgs false
theorem Row.grown{k:IntKind}{w w':World}{a:Option Addr}{cap:Nat}{l:List Nat}{row:Option Nat}(h:Row k w a cap l)(hg:w.grownBy w' row)(hne:∀b off,a=some ⟨b,off,none⟩→some b≠row):Row k w' a cap l:=by
 refine⟨h.fit,?_,fun i hi=>?_⟩
 ·
  rcases h.shape with h1|⟨b,off,rfl,h2⟩
  · exact .inl h1
  · exact .inr ⟨b,off,rfl,by have:=hg.size;omega⟩
 · obtain⟨b,off,h1,h2,h3⟩:=h.cell i hi
   exact⟨b,off,h1,by have:=hg.size;omega,(World.cell?_of_block (w:=w) (a:=⟨b,off+i,none⟩) (hg.block b h2 (hne b off h1))).trans h3⟩
theorem U32.grown{w w':World}{a:Option Addr}{cap:Nat}{l:List Nat}{n:Nat}{row:Option Nat}(h:U32 w a cap l n)(hg:w.grownBy w' row)(hne:∀b off,a=some ⟨b,off,none⟩→some b≠row):U32 w' a cap l n:=⟨h.row.grown hg hne,h.num,h.short⟩
theorem Qbb{w w':World}{base:Nat}{e:TypeId}{size:Nat}{v:Value}{n:Nat}{xs:List Value}(h:w.ownsRow base e size v n xs)(hb:Below w.heap.size w w'):w'.ownsRow base e size v n xs:=by
 refine⟨h.1,?_⟩;rcases h.2 with h1|⟨g,cap,cur,h1,h2,h3,h4⟩
 · exact .inl h1
 ·
  refine .inr ⟨g,cap,cur,h1,h2,?_,h4⟩;have hlt:g<w.heap.size:=by
   apply Classical.byContradiction;intro hc;rw[Array.getElem?_eq_none (by omega)] at h3;cases h3
  rw[hb.block g hlt];exact h3
def byteV(d:Nat):Value:=.int .u8 (48+(d:Int))
def sliceLen:Value→Nat
 | .slice _ n _=>n
 |_=>0
theorem Qds{w:World}{base:Nat}{e:TypeId}{size:Nat}{v:Value}{n:Nat}{xs:List Value}(h:w.ownsRow base e size v n xs):sliceLen v=n:=by
 rcases h.2 with ⟨rfl,rfl⟩|⟨g,cap,cur,rfl,_⟩<;>rfl
theorem Tryz.info8:(Tryz.prog.info? 5).map (fun i=>(i.zero,i.size,i.bytes))=some (some (.int .u8 0),1,1):=by kernel_rfl
theorem Qkr{x k d:Nat}{ds:List Nat}(hk:ds.length=k)(hd:x / 10 ^ k % 10=d)(hv:val 10 ds+10 ^ k*(x / 10 ^ k)=x):val 10 (ds++ [d])+10 ^ (k+1)*(x / 10 ^ (k+1))=x:=by
 rw[Qb1,hk,Qa6,Qb0,Nat.mul_zero,Nat.add_zero,Nat.pow_succ,←Nat.div_div_eq_div_mul];have h1:=Nat.div_add_mod (x / 10 ^ k) 10;rw[hd] at h1;have h2:10 ^ k*10*(x / 10 ^ k / 10)+10 ^ k*d=10 ^ k*(x / 10 ^ k):=by
  conv=>rhs;rw[←h1]
  rw[Nat.mul_add,Nat.mul_assoc]
 omega
theorem Qks{x k:Nat}(h:x / 10 ^ k≠0):10 ^ k≤x:=by
 apply Classical.byContradiction;intro hc;exact h (Nat.div_eq_of_lt (by omega))
theorem Qkt(k:Nat):k<10 ^ k:=Nat.lt_pow_self (by decide)
theorem Qfy{k K x:Nat}(h:10 ^ k≤x)(hx:x<2 ^ K):k<K:=by
 have h1:2 ^ k≤10 ^ k:=Nat.pow_le_pow_left (by decide) k;exact(Nat.pow_lt_pow_iff_right (by decide:1<2)).1 (Nat.lt_of_le_of_lt (Nat.le_trans h1 h) hx)
def revAt(bs:List Nat)(n m p:Nat):Nat:=if p<m∨n≤p+m then bs.getD (n - 1 - p) 0 else bs.getD p 0
theorem Qfz{w:World}{base:Nat}{e:TypeId}{v:Value}{n:Nat}{bs:List Nat}(h:w.ownsRow base e 1 v n (bs.map fun b:Nat=>Value.int .u8 (b:Int)))(h0:0<n):
 ∃g cap C,v=.slice (some ⟨g,0,none⟩) n cap∧base≤g∧n≤cap∧bs.length=n∧SB w g e C∧∀p,p<n→C[p]?=some (.int .u8 ((bs.getD p 0:Nat):Int)):=by
 obtain⟨hl,h1⟩:=h;rw[List.length_map,Nat.mul_one] at hl;rcases h1 with ⟨_,h1⟩|⟨g,cap,cur,h1,h2,h3,h4,h5,h6,h7⟩
 · omega
 ·
  refine⟨g,cap,cur,h1,h2,h4,hl,h3,fun p hp=>?_⟩;have e1:(cur.toList.take (n*1))[p]?=cur[p]?:=by
   rw[List.getElem?_take_of_lt (by omega)];simp
  rw[←e1,h7,List.getElem?_map,List.getD_eq_getElem?_getD];obtain⟨u,hu⟩:∃u,bs[p]?=some u:=⟨bs[p],by rw[List.getElem?_eq_getElem]⟩;rw[hu];rfl
theorem Qf0(bs:List Nat)(n p:Nat)(hp:p<n):revAt bs n 0 p=bs.getD p 0:=by unfold revAt;rw[if_neg (by omega)]
theorem Qf1(bs:List Nat)(n m j:Nat)(h:m+j=n - 1)(hm:m<j):revAt bs n m m=bs.getD m 0:=by unfold revAt;rw[if_neg (by omega)]
theorem Qf2(bs:List Nat)(n m j:Nat)(h:m+j=n - 1)(hm:m<j):revAt bs n m j=bs.getD j 0:=by unfold revAt;rw[if_neg (by omega)]
theorem Qf3{C:Array Value}(bs:List Nat)(n m j:Nat)(h:m+j=n - 1)(hm:m<j)(hC:∀p,p<n→C[p]?=some (.int .u8 ((revAt bs n m p:Nat):Int))):
 ∀p,p<n→((C.setIfInBounds m (.int .u8 ((bs.getD j 0:Nat):Int))).setIfInBounds j (.int .u8 ((bs.getD m 0:Nat):Int)))[p]?=some (.int .u8 ((revAt bs n (m+1) p:Nat):Int)):=by
 intro p hp;have hsz:∀p,p<n→p<C.size:=fun p hp=>by
  have:=hC p hp;apply Classical.byContradiction;intro hc;rw[Array.getElem?_eq_none (by omega)] at this;cases this
 have h1:=hsz m (by omega);have h2:=hsz j (by omega);rw[Array.getElem?_setIfInBounds];by_cases e1:j=p
 ·
  subst e1;rw[if_pos rfl,if_pos (by simpa using h2)];unfold revAt;rw[if_pos (by omega),show n - 1 - j=m by omega]
 ·
  rw[if_neg e1,Array.getElem?_setIfInBounds];by_cases e2:m=p
  ·
   subst e2;rw[if_pos rfl,if_pos h1];unfold revAt;rw[if_pos (by omega),show n - 1 - m=j by omega]
  ·
   rw[if_neg e2,hC p hp];unfold revAt;by_cases e3:p<m∨n≤p+m
   · rw[if_pos e3,if_pos (by omega)]
   · rw[if_neg e3,if_neg (by omega)]
theorem Qku(bs:List Nat)(n m j p:Nat)(h:m+j=n - 1)(hm:¬m<j)(hn:bs.length=n)(hp:p<n):((revAt bs n m p:Nat):Int)=(bs.reverse.map (fun b:Nat=>(b:Int))).getD p 0:=by
 have e:revAt bs n m p=bs.getD (n - 1 - p) 0:=by
  unfold revAt;by_cases e3:p<m∨n≤p+m
  · rw[if_pos e3]
  · rw[if_neg e3,show n - 1 - p=p by omega]
 rw[e,List.getD_eq_getElem?_getD,List.getD_eq_getElem?_getD,List.getElem?_map,List.getElem?_reverse (by omega),hn];obtain⟨u,hu⟩:∃u,bs[n - 1 - p]?=some u:=⟨bs[n - 1 - p]'(by omega),by rw[List.getElem?_eq_getElem]⟩;rw[hu];rfl
theorem Qkv(ds:List Nat):ds.map byteV=(ds.map (48+ ·)).map (fun b:Nat=>Value.int .u8 (b:Int)):=by
 rw[List.map_map];apply List.map_congr_left;intro d _
 show Value.int .u8 (48+(d:Int))=Value.int .u8 ((48+d:Nat):Int)
 rw[Int.natCast_add];rfl
theorem Qf4(ds:List Nat):(strOfNums ((ds.map (48+ ·)).reverse.map (fun b:Nat=>(b:Int)))).data.toList=ds.reverse.map (fun d=>UInt8.ofNat (48+d)):=by
 rw[strOfNums_data,←List.map_reverse,List.map_map,List.map_map];apply List.map_congr_left;intro d _
 show UInt8.ofNat ((48+d:Nat):Int).toNat=_
 rw[Int.toNat_natCast]
theorem Qkw(ds:List Nat):(strOfNums ((ds.map (48+ ·)++ [45]).reverse.map (fun b:Nat=>(b:Int)))).data.toList=45 :: ds.reverse.map (fun d=>UInt8.ofNat (48+d)):=by
 rw[←Qf4,strOfNums_data,strOfNums_data,List.reverse_append];rfl
theorem Qf5(wr:World)(g n capg m jj:Nat)(bs:List Nat)(C:Array Value)(hsb:SB wr g 5 C)(hC:∀p,p<n→C[p]?=some (.int .u8 ((revAt bs n m p:Nat):Int)))(hmj:m+jj=n - 1)(hlt:¬m<jj)(hbl:bs.length=n):
 (convert 208 9 (.slice (some ⟨g,0,none⟩) n capg)).run Tryz.prog wr=.ok (.string (strOfNums (bs.reverse.map (fun b:Nat=>(b:Int))))) wr:=by
 refine run_convert_bytes_arg (P:=Tryz.prog) wr 208 5 Tryz.underlying208 Tryz.underlying5 g 0 n capg _ ?_ ?_ 9 Tryz.underlying9
 · rw[List.length_map,List.length_reverse];exact hbl
 · intro p hp
   rw[Nat.zero_add,hsb.cell,hC p hp,Qku _ _ _ _ _ hmj hlt hbl hp]
set_option maxRecDepth 100000 in
set_option maxHeartbeats 4000000 in
theorem Qkx(b o K:Nat)(X:Int)(a:Option Addr)(cap:Nat)(l:List Nat)(w:World)(hx:IntAt w b o X a cap l)(hX:X≠0)(hK:X.natAbs<2 ^ K)(hKK:K≤1099511627776):
 Calls Tryz.prog 98 #[.pointer (some ⟨b,o,none⟩),.int .i64 10] w fun e w'=>(∃s,e=.returned (.string s)∧IntText s.data.toList X)∧Below w.heap.size w w':=by
 obtain⟨i0,hi,hz0,hz1,hz2⟩:=info_parts Tryz.info8;have k0:=hx.neg;have k1:=hx.abs;have hlt:=hx.lt;have q1:((l.length:Int) == 0)=false:=by
  rw[beq_eq_false_iff_ne];have:=(hx.num.num.len_zero (by decide)).2;omega
 have HX:=Hi hx.num;obtain⟨x,hxx⟩:∃x,X.natAbs=x:=⟨_,rfl⟩;rw[hxx] at HX hK;have hx0:x≠0:=by omega
 have HXK:=Hi hK;clear hx hK;go_enter Tryz.func98,Tryz.ntmps98;go_wp2_with fail;refine(Qcg a cap l x _ HX.out).mono ?_;rintro e w1 ⟨⟨a1,cap1,rfl,hu1⟩,hb1⟩;have c0:=(hb1.cell (p:=⟨b,o,none⟩) hlt).trans k0;have HU1:=Hi hu1;have HB1:=Hi hb1;clear hu1 hb1;go_wp2_with fail;go_loopw [5,6] (fun bv av wr=>∃(k:Nat) (ds:List Nat) (a:Option Addr) (cap:Nat) (l:List Nat),ds.length=k∧av=.slice a l.length cap∧U32 wr a cap l (x / 10 ^ k)∧wr.ownsRow w.heap.size 5 1 bv k (ds.map byteV)∧Small 10 ds∧val 10 ds+10 ^ k*(x / 10 ^ k)=x∧(k=0∨10 ^ (k - 1)≤x)∧Below w.heap.size w wr) (fun bv _ _=>x+1 - sliceLen bv)
 case atStart=>exact⟨0,[],a1,cap1,l,rfl,rfl,by rw[Nat.pow_zero,Nat.div_one];exact HU1.out,World.ownsRow_nil _ _ _ _,Small.nil _,by simp[val],.inl rfl,HB1.out⟩
 case round=>
  obtain⟨k,ds,a,cap,l,hk,rfl,hu,hown,hsm,hv,hp,hb⟩:=hrel;have hsl:=Qds hown;have HU:=Hi hu;have HB:=Hi hb;have HO:=Hi hown;have HV:=Hi hv;have HSM:=Hi hsm;have HP:=Hi hp;have hsz:=hb.size;clear hu hb hown hv hsm hp;by_cases hz:l.length=0
  ·
   have hx10:x / 10 ^ k=0:=(HU.out.num.len_zero (by decide)).2 hz;have hkp:0<k:=by
    rcases Nat.eq_zero_or_pos k with h0|h0
    ·
     subst h0;rw[Nat.pow_zero,Nat.div_one] at hx10;omega
    · exact h0
   have HN:Hid (Num 10 ds x):=Hi (Qi2 HSM.out hk (by have:=HV.out;rw[hx10,Nat.mul_zero,Nat.add_zero] at this;exact this) (by rcases HP.out with h|h;omega;exact h) hkp);have hkK:k - 1<K:=by
    rcases HP.out with h|h
    · omega
    · exact Qfy h HXK.out
   have d0:=(HB.out.cell (p:=⟨b,o,none⟩) hlt).trans k0;have EBS:=Hi (Qkv ds);by_cases hneg:X<0
   ·
    rw[show decide (X<0)=true by simpa using hneg] at d0;go_wp2_with (at_builtin;refine wpList_append_lies _ rfl _ _ 208 rfl w.heap.size 5 i0 (.int .u8 0) 1 1 Tryz.underlying208 hi hz0 hz1 hz2 rfl (by decide) _ k (ds.map byteV) rfl (Qbb HO.out ((Below.refl _ _).alloc (Nat.le_refl _) _)) ⟨wr.heap.size,0,none⟩ 1 1 [Value.int .u8 45] rfl rfl ?c1 ?c2 (by decide) ?c3 ?c4 ?c5 _ rfl ?_)
    case c1=>exact World.news_of_block (heap_alloc_new wr _)
    case c2=>intro u hu;rw[List.mem_singleton.1 hu];rfl
    case c3=>unfold maxLen;omega
    case c4=>omega
    case c5=>rw[World.size_alloc];omega
    intro g capg w3 hown3 hgrow hat hlt3;rw[EBS.out,show [Value.int .u8 45]= [45].map (fun b:Nat=>Value.int .u8 (b:Int)) from rfl,←List.map_append] at hown3;have HOB:=Hi (Qfz hown3 (by omega));have HBB:=Hi (Below.grown (HB.out.alloc (by omega) (Obj.cells #[Value.int IntKind.u8 45] 5)) hgrow (by rw[World.size_alloc];omega) (fun q hq=>(HO.out.lt q hq).1));have HSTR:Hid (IntText (strOfNums ((ds.map (48+ ·)++ [45]).reverse.map (fun b:Nat=>(b:Int)))).data.toList X):=Hi ⟨ds.reverse.map (fun d=>UInt8.ofNat (48+d)),.inr ⟨by omega,ds,by rw[hxx];exact HN.out,rfl⟩,by rw[if_pos hneg];exact Qkw ds⟩;clear hown3 hgrow hat hlt3 hx10 c0 k0 k1;obtain⟨bs,hbs⟩:∃bs,(ds.map (48+ ·)++ [45])=bs:=⟨_,rfl⟩;rw[hbs] at HOB HSTR;clear hbs;obtain⟨g,capg,C,hv,hgb,hcg,hbl,hsb,hC⟩:=HOB.out;cases hv;have HBL:=Hi hbl;have HSB:=Hi hsb;have HC:=Hi hC;clear hsb hC hbl HOB;go_wp2_with fail
    go_loopw [8,9] (fun i j wr=>∃(m jj:Nat) (C:Array Value),i=.int .i64 m∧j=.int .i64 jj∧m+jj=(k+1) - 1∧SB wr g 5 C∧(∀p,p<(k+1)→C[p]?=some (.int .u8 ((revAt bs (k+1) m p:Nat):Int)))∧Below w.heap.size w wr) (fun i _ _=>(k+1) - (intOf i).toNat)
    case atStart=>exact⟨0,(k+1) - 1,C,rfl,by go_num,by omega,HSB.out,fun p hp=>by rw[Qf0 _ _ _ hp];exact HC.out p hp,HBB.out⟩
    case round=>
     obtain⟨m,jj,C',rfl,rfl,hmj,hsb,hC,hb⟩:=hrel;have HSB':=Hi hsb;have HC':=Hi hC;have HB':=Hi hb;by_cases hlt:m<jj
     ·
      have hCm:=hC m (by omega);have hCj:=hC jj (by omega);rw[Qf1 _ _ _ _ hmj hlt] at hCm;rw[Qf2 _ _ _ _ hmj hlt] at hCj;have HST:=Hi (Qf3 bs (k+1) m jj hmj hlt HC'.out);obtain⟨y1,hy1⟩:∃y1,bs.getD m 0=y1:=⟨_,rfl⟩;obtain⟨y2,hy2⟩:∃y2,bs.getD jj 0=y2:=⟨_,rfl⟩;rw[hy1] at hCm HST;rw[hy2] at hCj HST;have d1:=(hsb.cell m).trans hCm;have d2:=(hsb.cell jj).trans hCj;have f1:=hsb.free m;have f2:=hsb.free jj;have hne:m≠jj:=by omega
      clear hsb hC hb hCm hCj hy1 hy2;go_wp2;go_roundw
      case rel=>exact⟨m+1,jj - 1,_,by go_num,by go_num,by omega,(HSB'.out.set m _).set jj _,HST.out,(HB'.out.setCell hgb _).setCell hgb _⟩
      case measure=>simp[intOf];omega
     ·
      have hcv:=Qf5 wr g (k+1) capg m jj bs C' HSB'.out HC'.out hmj hlt HBL.out;obtain⟨st,hst⟩:∃st,strOfNums (bs.reverse.map (fun b:Nat=>(b:Int)))=st:=⟨_,rfl⟩;rw[hst] at hcv HSTR;clear hsb hC hb hst;go_wp2;go_ret;exact⟨⟨_,rfl,HSTR.out⟩,HB'.out⟩
   ·
    rw[show decide (X<0)=false by simpa using hneg] at d0;have hown3:=HO.out;rw[EBS.out] at hown3;have HOB:=Hi (Qfz hown3 (by omega));have HBB:=Hi HB.out;have HSTR:Hid (IntText (strOfNums ((ds.map (48+ ·)).reverse.map (fun b:Nat=>(b:Int)))).data.toList X):=Hi ⟨ds.reverse.map (fun d=>UInt8.ofNat (48+d)),.inr ⟨by omega,ds,by rw[hxx];exact HN.out,rfl⟩,by rw[if_neg hneg];exact Qf4 ds⟩;clear hown3 hx10 c0 k0 k1;obtain⟨bs,hbs⟩:∃bs,(ds.map (48+ ·))=bs:=⟨_,rfl⟩;rw[hbs] at HOB HSTR;clear hbs;obtain⟨g,capg,C,hv,hgb,hcg,hbl,hsb,hC⟩:=HOB.out;cases hv;have HBL:=Hi hbl;have HSB:=Hi hsb;have HC:=Hi hC;clear hsb hC hbl HOB;go_wp2_with fail;go_loopw [8,9] (fun i j wr=>∃(m jj:Nat) (C:Array Value),i=.int .i64 m∧j=.int .i64 jj∧m+jj=k - 1∧SB wr g 5 C∧(∀p,p<k→C[p]?=some (.int .u8 ((revAt bs k m p:Nat):Int)))∧Below w.heap.size w wr) (fun i _ _=>k - (intOf i).toNat)
    case atStart=>exact⟨0,k - 1,C,rfl,by go_num,by omega,HSB.out,fun p hp=>by rw[Qf0 _ _ _ hp];exact HC.out p hp,HBB.out⟩
    case round=>
     obtain⟨m,jj,C',rfl,rfl,hmj,hsb,hC,hb⟩:=hrel;have HSB':=Hi hsb;have HC':=Hi hC;have HB':=Hi hb;by_cases hlt:m<jj
     ·
      have hCm:=hC m (by omega);have hCj:=hC jj (by omega);rw[Qf1 _ _ _ _ hmj hlt] at hCm;rw[Qf2 _ _ _ _ hmj hlt] at hCj;have HST:=Hi (Qf3 bs k m jj hmj hlt HC'.out);obtain⟨y1,hy1⟩:∃y1,bs.getD m 0=y1:=⟨_,rfl⟩;obtain⟨y2,hy2⟩:∃y2,bs.getD jj 0=y2:=⟨_,rfl⟩;rw[hy1] at hCm HST;rw[hy2] at hCj HST;have d1:=(hsb.cell m).trans hCm;have d2:=(hsb.cell jj).trans hCj;have f1:=hsb.free m;have f2:=hsb.free jj;have hne:m≠jj:=by omega
      clear hsb hC hb hCm hCj hy1 hy2;go_wp2;go_roundw
      case rel=>exact⟨m+1,jj - 1,_,by go_num,by go_num,by omega,(HSB'.out.set m _).set jj _,HST.out,(HB'.out.setCell hgb _).setCell hgb _⟩
      case measure=>simp[intOf];omega
     ·
      have hcv:=Qf5 wr g k capg m jj bs C' HSB'.out HC'.out hmj hlt HBL.out;obtain⟨st,hst⟩:∃st,strOfNums (bs.reverse.map (fun b:Nat=>(b:Int)))=st:=⟨_,rfl⟩;rw[hst] at hcv HSTR;clear hsb hC hb hst;go_wp2;go_ret;exact⟨⟨_,rfl,HSTR.out⟩,HB'.out⟩
  ·
   have HPW:=Hi (Qks (fun h0=>hz ((HU.out.num.len_zero (by decide)).1 h0)));have hkK:k<K:=Qfy HPW.out HXK.out;have hkx:k<x:=Nat.lt_of_lt_of_le (Qkt k) HPW.out;go_wp2_with fail;refine(Qio a cap 10 l (x / 10 ^ k) _ HU.out (by decide) (by decide)).mono ?_;rintro e w2 ⟨⟨cap2,r2,rfl,hu2⟩,hb2⟩;have HO2:=Hi (Qbb HO.out hb2);have hob:∀q,u5.ownBlock=some q→q<wr.heap.size:=fun q hq=>(HO.out.lt q hq).2
   have HU2:=Hi hu2;have HB2:=Hi hb2;have hsz2:=hb2.size;clear hu2 hb2;obtain⟨d,hd⟩:∃d,x / 10 ^ k % 10=d:=⟨_,rfl⟩;have hd9:d<10:=by omega
   rw[hd];have HD:=Hi hd;clear hd;go_wp2_with (at_builtin;refine wpList_append_lies _ rfl _ _ 208 rfl w.heap.size 5 i0 (.int .u8 0) 1 1 Tryz.underlying208 hi hz0 hz1 hz2 rfl (by decide) _ k (ds.map byteV) rfl (Qbb HO2.out ((Below.refl _ _).alloc (Nat.le_refl _) _)) ⟨w2.heap.size,0,none⟩ 1 1 [byteV d] rfl rfl ?c1 ?c2 (by decide) ?c3 ?c4 ?c5 _ rfl ?_)
   case c1=>exact World.news_of_block (heap_alloc_new w2 _)
   case c2=>intro u hu;rw[List.mem_singleton.1 hu];rfl
   case c3=>unfold maxLen;omega
   case c4=>omega
   case c5=>rw[World.size_alloc];omega
   intro g cap' w3 hown3 hgrow hat hlt3;have HO3:=Hi hown3;have HG:=Hi hgrow;clear hown3 hgrow;go_wp2;go_roundw
   case rel=>
    refine⟨k+1,ds++ [d],_,_,r2,by simp[hk],rfl,?_,?_,HSM.out.append (fun e he=>by rw[List.mem_singleton.1 he];exact hd9),Qkr hk HD.out HV.out,.inr (by rw[Nat.add_sub_cancel];exact HPW.out),?_⟩
    ·
     have hu3:=HU2.out.below ((Below.refl _ w2).alloc (Nat.le_refl _) (Obj.cells #[Value.int IntKind.u8 (48+(d:Int))] 5));rw[Nat.pow_succ,←Nat.div_div_eq_div_mul];refine hu3.grown HG.out ?_;intro b' off' he hc;obtain⟨rfl,rfl⟩:wr.heap.size=b'∧0=off':=by simpa using he
     have:=hob _ hc.symm;omega
    · rw[List.map_append]
      exact HO3.out
    ·
     refine Below.grown ((HB.out.trans (HB2.out.mono (by omega))).alloc (by omega) _) HG.out (by rw[World.size_alloc];omega) ?_;intro q hq;exact(HO.out.lt q hq).1
   case measure=>rw[hsl];simp[sliceLen];omega
end Go.Proofs.YtbbkamnfjejceaaGreatDoor
