/- num's appendChunk, parseNat. -/
import Derived.Test.YtodfmpjhcmapmaaGreatDoorN19NatLess2
namespace Go.Proofs.YtodfmpjhcmapmaaGreatDoor
open Go.RowKit
set_option linter.unusedVariables false
set_option linter.unusedSimpArgs false
theorem Qdn(s:ByteArray):s.toList= []↔s.data.toList= []:=by rw[Lib.toList_data]
def DigAns(s:ByteArray)(w:World)(e:Ending)(w':World):Prop:=(∃v,e=.returned (.bool v)∧(v=true↔IsDig s.data.toList))∧w'=w
set_option maxHeartbeats 1000000 in
theorem Qh6(s:ByteArray)(w:World)(hs:s.size≤1073741824):
 Calls Tryz.prog 67 #[.string s] w (DigAns s w):=by
 go_enter Tryz.func67,Tryz.ntmps67;go_wp2;go_loop [6] (fun i=>∃k:Nat,k≤s.size∧i=.int .i64 k∧AllDigits (s.data.toList.take k)) (fun i=>s.size - (intOf i).toNat)
 case atStart=>exact⟨0,by omega,rfl,fun c hc=>by simp at hc⟩
 case round=>
  obtain⟨k,hk,rfl,hd⟩:=hrel;have HD:=Hi hd;clear hd;by_cases hlt:k<s.size
  ·
   have HT:=Hi (Qd1 s k hlt);have b0:(0:Int)≤(k:Int):=by omega
   have b1:(k:Int)<(s.size:Int):=by omega
   have HM:Hid (s[k]∈ s.data.toList):=Hi (List.mem_iff_getElem.2 ⟨k,by simpa using hlt,rfl⟩);by_cases h1:s[k].toNat<48
   ·
    have q1:((s[k].toNat:Int)<48):=by omega
    go_wp2;go_ret;refine⟨⟨false,rfl,?_⟩,rfl⟩;constructor
    · intro h;cases h
    · intro h;have:=(h.2 _ HM.out).1;omega
   ·
    have q1:¬((s[k].toNat:Int)<48):=by omega
    by_cases h2:57<s[k].toNat
    ·
     have q2:((57:Int)<(s[k].toNat:Int)):=by omega
     go_wp2;go_ret;refine⟨⟨false,rfl,?_⟩,rfl⟩;constructor
     · intro h;cases h
     · intro h;have:=(h.2 _ HM.out).2;omega
    ·
     have q2:¬((57:Int)<(s[k].toNat:Int)):=by omega
     go_wp2;go_round
     case rel=>
      refine⟨k+1,by omega,by go_num,?_⟩;rw[HT.out];intro c hc;rcases List.mem_append.1 hc with hc|hc
      · exact HD.out c hc
      · rw[List.mem_singleton.1 hc];omega
     case measure=>simp[intOf];omega
  ·
   have hk':k=s.size:=by omega
   subst hk';have HA:Hid (AllDigits s.data.toList):=Hi (by have:=HD.out;rwa [List.take_of_length_le (by simp)] at this);by_cases h0:s.toList= []
   ·
    go_wp2;go_ret;refine⟨⟨_,rfl,?_⟩,rfl⟩;have:¬IsDig s.data.toList:=fun h=>h.1 ((Qdn s).1 h0)
    simp[h0,this]
   ·
    go_wp2;go_ret;refine⟨⟨_,rfl,?_⟩,rfl⟩;have:IsDig s.data.toList:=⟨fun h=>h0 ((Qdn s).2 h),HA.out⟩;simp[h0,this]
set_option maxHeartbeats 1000000 in
theorem Qh7(s:ByteArray)(w:World)(hs:s.size≤19)(hd:AllDigits s.data.toList):
 Calls Tryz.prog 126 #[.string s] w fun e w'=>e=.returned (.int .u64 ((decVal s.data.toList:Nat):Int))∧w'=w:=by
 have HD:=Hi hd;clear hd;go_enter Tryz.func126,Tryz.ntmps126;go_wp2;go_loop [3,7] (fun r i=>∃k v:Nat,k≤s.size∧i=.int .i64 k∧r=.int .u64 v∧decVal (s.data.toList.take k)=v) (fun _ i=>s.size - (intOf i).toNat)
 case atStart=>exact⟨0,0,by omega,rfl,rfl,by simp[decVal]⟩
 case round=>
  obtain⟨k,v,hk,rfl,rfl,hv⟩:=hrel;have HV:=Hi hv;clear hv;by_cases hlt:k<s.size
  ·
   have hdk:=Qd2 HD.out k hlt;have HT:=Hi (Qd1 s k hlt);obtain⟨d,hd9,hde,hdi⟩:=Qgh s[k] hdk.1 hdk.2;have HDE:=Hi hde;have b0:(0:Int)≤(k:Int):=by omega
   have b1:(k:Int)<(s.size:Int):=by omega
   have e48:(48:Int)+(d:Int) - 48=d:=by omega
   have hvb:v<1000000000000000000:=by
    have h1:=Qaw _ (HD.out.take k);rw[HV.out] at h1;have h2:(s.data.toList.take k).length≤18:=by rw[List.length_take];omega
    have h3:10 ^ (s.data.toList.take k).length≤10 ^ 18:=Nat.pow_le_pow_right (by decide) h2;omega
   obtain⟨v',hv'⟩:∃v',v*10+d=v':=⟨_,rfl⟩;have HN:=Hi hv';have m1:(v:Int)*10+(d:Int)=(v':Int):=by omega
   clear hde hdk hv';go_wp2;go_round
   case rel=>exact⟨k+1,v',by omega,by go_num,by go_num,by rw[HT.out,Qft,HV.out,HDE.out,←HN.out];omega⟩
   case measure=>simp[intOf];omega
  ·
   have hk':k=s.size:=by omega
   subst hk';go_wp2;go_ret;have hv:=HV.out;rw[List.take_of_length_le (by simp)] at hv;exact⟨by rw[hv];rfl,rfl⟩
structure OwnB (w:World) (B g cap:Nat) (ws:List Nat):Prop where
 base:B≤g
 fit:ws.length≤cap
 most:cap≤maxLen
 blk:∃C,SB w g 81 C∧C.size=cap∧C.toList.take ws.length=ws.map (fun n:Nat=>Value.int .u64 n)
theorem OwnB.lt{w:World}{B g cap:Nat}{ws:List Nat}(h:OwnB w B g cap ws):g<w.heap.size:=by obtain⟨C,h,_⟩:=h.blk;exact h.lt
theorem OwnB.owns{w:World}{B g cap:Nat}{ws:List Nat}(h:OwnB w B g cap ws):w.ownsRow B 81 1 (.slice (some ⟨g,0,none⟩) ws.length cap) ws.length (ws.map (fun n:Nat=>Value.int .u64 n)):=by
 obtain⟨C,h1,h2,h3⟩:=h.blk;exact⟨by simp,.inr ⟨g,cap,C,rfl,h.base,h1,h.fit,h.most,by omega,by rw[Nat.mul_one];exact h3⟩⟩
theorem OwnB.of{w:World}{B g n cap:Nat}{ws:List Nat}(hn:ws.length=n)(h:w.ownsRow B 81 1 (.slice (some ⟨g,0,none⟩) n cap) n (ws.map (fun n:Nat=>Value.int .u64 n))):OwnB w B g cap ws:=by
 rcases h.2 with ⟨h,_⟩|⟨g',cap',C,he,hb,hg,hf,hm,hs,ht⟩
 · cases h
 ·
  injection he with h1 h2 h3
  injection h1 with h1
  injection h1 with h1 _ _
  subst h1;subst h3;rw[Nat.mul_one] at hs ht;exact⟨hb,by omega,hm,C,hg,hs,by rw[hn];exact ht⟩
theorem OwnB.at{w:World}{B g cap:Nat}{ws:List Nat}(h:OwnB w B g cap ws)(i:Nat)(hi:i<ws.length):w.cell? ⟨g,i,none⟩=some (.int .u64 ((ws.getD i 0:Nat):Int)):=by
 obtain⟨C,h1,h2,h3⟩:=h.blk;rw[h1.cell];have e:(C.toList.take ws.length)[i]?=(ws.map (fun n:Nat=>Value.int .u64 (n:Int)))[i]?:=by rw[h3]
 rw[List.getElem?_take_of_lt hi,List.getElem?_map,List.getElem?_eq_getElem hi] at e;rw[Array.getElem?_toList] at e;rw[e,List.getD_eq_getElem?_getD,List.getElem?_eq_getElem hi];rfl
theorem OwnB.free{w:World}{B g cap:Nat}{ws:List Nat}(h:OwnB w B g cap ws)(i:Nat):w.frozen? ⟨g,i,none⟩=false:=by
 obtain⟨C,h1,_⟩:=h.blk;exact h1.free i
theorem OwnB.set{w:World}{B g cap:Nat}{ws:List Nat}(h:OwnB w B g cap ws)(i x:Nat):OwnB (w.setCell ⟨g,i,none⟩ (.int .u64 (x:Int))) B g cap (ws.set i x):=by
 obtain⟨C,h1,h2,h3⟩:=h.blk;refine⟨h.base,by rw[List.length_set];exact h.fit,h.most,_,h1.set i _,by rw[Array.size_setIfInBounds];exact h2,?_⟩;rw[List.length_set,Array.toList_setIfInBounds,List.take_set,h3,List.map_set]
theorem OwnB.pre{w:World}{B g cap:Nat}{ws:List Nat}(h:OwnB w B g cap ws):Pre w g ws:=by
 have h':=h;obtain⟨C,h1,h2,h3⟩:=h.blk;exact⟨C,h1,fun i hi=>by rw[←h1.cell];exact h'.at i hi⟩
theorem Qpi{ws:List Nat}{x:Nat}(hs:Small 18446744073709551616 ws)(hv:val 18446744073709551616 ws=x)(hx:ws.length=0∨18446744073709551616 ^ (ws.length - 1)≤x):Num 18446744073709551616 ws x:=by
 refine⟨hs,?_,hv⟩;rcases hx with hx|hx
 · left;exact List.length_eq_zero_iff.1 hx
 ·
  by_cases h0:ws.length=0
  · left;exact List.length_eq_zero_iff.1 h0
  right;intro hc;obtain⟨j,hj⟩:∃j,ws.length=j+1:=⟨ws.length - 1,by omega⟩;have h1:=Qbx 18446744073709551616 ws j (by omega);rw[hj,Nat.add_sub_cancel] at hc hx;rw[hc,Nat.mul_zero,Nat.add_zero,List.take_of_length_le (by omega),hv] at h1;have h2:=Qaa (B:=18446744073709551616) (by decide) (hs.take j);rw[List.length_take,Nat.min_eq_left (by omega)] at h2;omega
theorem Qpj{B k over d R h l chunk:Nat}{rs ws:List Nat}(hk:k<rs.length)(hd:ws.getD k 0=d)(h1:l+B*h=d*R+over)(hv:val B (rs.take k)+B ^ k*over=val B (ws.take k)*R+chunk):
 val B ((rs.set k l).take (k+1))+B ^ (k+1)*h=val B (ws.take (k+1))*R+chunk:=by
 rw[take_set _ _ _ hk,Qak,List.length_take,Nat.min_eq_left (by omega),Qad,hd,Nat.pow_succ];have e1:B ^ k*(l+B*h)=B ^ k*(d*R+over):=by rw[h1]
 rw[Nat.mul_add,Nat.mul_add,←Nat.mul_assoc] at e1;rw[Nat.add_mul,Nat.mul_assoc (B ^ k) d R];omega
theorem Tryz.info64':∃i,Tryz.prog.info? 81=some i∧i.zero=some (.int .u64 0)∧i.size=1∧i.bytes=8:=info_parts Tryz.info64
set_option maxRecDepth 100000 in
set_option maxHeartbeats 1000000 in
theorem Qh2(B g cap:Nat)(ws:List Nat)(x chunk:Nat)(w:World)(h:OwnB w B g cap ws)(hx:Num 18446744073709551616 ws x)(hc:chunk<18446744073709551616)(hl:ws.length<1099511627770)(hBw:B≤w.heap.size):
 Calls Tryz.prog 125 #[.slice (some ⟨g,0,none⟩) ws.length cap,.int .u64 chunk] w fun e w'=>(∃g' cap' ws',e=.returned (.slice (some ⟨g',0,none⟩) (List.length ws') cap')∧OwnB w' B g' cap' ws'∧Num 18446744073709551616 ws' (x*10000000000000000000+chunk)∧ws'.length≤ws.length+1)∧Below B w w'∧w.heap.size≤w'.heap.size:=by
 obtain⟨i0,hi,hz0,hz1,hz2⟩:=Tryz.info64';have HI:=Hi hi;have HZ0:=Hi hz0;have HZ1:=Hi hz1;have HZ2:=Hi hz2;have hcap:=h.fit;have HO:=Hi h;have HX:=Hi hx;clear h hx hi hz0 hz1 hz2;go_enter Tryz.func125,Tryz.ntmps125;go_wp2;go_loopw [5,10] (fun ov iv wr=>∃(k over:Nat) (rs:List Nat),k≤ws.length∧iv=.int .i64 k∧ov=.int .u64 over∧over<18446744073709551616∧OwnB wr B g cap rs∧rs.length=ws.length∧Small 18446744073709551616 rs∧(∀p,k≤p→rs.getD p 0=ws.getD p 0)∧val 18446744073709551616 (rs.take k)+18446744073709551616 ^ k*over=val 18446744073709551616 (ws.take k)*10000000000000000000+chunk∧Only g w wr) (fun _ iv _=>ws.length - (intOf iv).toNat)
 case atStart=>exact⟨0,chunk,ws,by omega,rfl,rfl,hc,HO.out,rfl,HX.out.small,fun _ _=>rfl,by simp[val],Only.refl _ _⟩
 case round=>
  obtain⟨k,over,rs,hk,rfl,rfl,hov,hown,hrl,hrs,hun,hv,hon⟩:=hrel;have HOW:=Hi hown;have HRL:=Hi hrl;have HRS:=Hi hrs;have HUN:=Hi hun;have HV:=Hi hv;have HON:=Hi hon;have hgl:=hown.lt;clear hown hrl hrs hun hv hon;by_cases hlt:k<ws.length
  ·
   obtain⟨d,hd⟩:∃d,ws.getD k 0=d:=⟨_,rfl⟩;have hdb:d<18446744073709551616:=by rw[←hd];exact HX.out.small.getD (by omega) k
   have g1:=HOW.out.free k;have g2:=HOW.out.at k (by have:=HRL.out;omega);rw[HUN.out k (Nat.le_refl _),hd] at g2;obtain⟨h,l,hh,hl',hhl,hcm⟩:=Qcp d 10000000000000000000 over hdb (by decide) hov;have HCM:=Hi hcm;have HD:=Hi hd;have HHL:=Hi hhl;clear hcm hd hhl;go_wp2_with fail;go_fit (HCM.out _);rintro e w2 ⟨rfl,hw2⟩;subst hw2;clear HCM;go_wp2;go_roundw
   case rel=>
    refine⟨k+1,h,rs.set k l,by omega,by go_num,rfl,hh,HOW.out.set k l,by rw[List.length_set];exact HRL.out,HRS.out.set _ hl',?_,Qpj (by have:=HRL.out;omega) HD.out HHL.out HV.out,HON.out.setCell _ _⟩;intro p hp;rw[Qae _ _ _ _ (by omega)];exact HUN.out p (by omega)
   case measure=>simp[intOf];omega
  ·
   have hk':k=ws.length:=by omega
   subst hk';have HV2:Hid (val 18446744073709551616 rs+18446744073709551616 ^ rs.length*over=x*10000000000000000000+chunk):=Hi (by
    have:=HV.out;rw[List.take_of_length_le (by rw[HRL.out];exact Nat.le_refl _),List.take_length,HX.out.eq] at this
    rw[HRL.out];exact this)
   by_cases ho0:over=0
   ·
    subst ho0;go_wp2;go_ret;have hv3:=HV2.out;rw[Nat.mul_zero,Nat.add_zero] at hv3;refine⟨⟨g,cap,rs,by rw[HRL.out];rfl,HOW.out,Qpi HRS.out hv3 ?_,by rw[HRL.out];omega⟩,HON.out.below HO.out.base hBw,HON.out.size⟩;by_cases hz:rs.length=0
    · exact .inl hz
    right;rw[HRL.out] at hz ⊢;have h1:18446744073709551616 ^ (ws.length - 1)≤x:=by have:=HX.out.trim.pow_le (B:=18446744073709551616) (by omega);rw[HX.out.eq] at this;exact this
    omega
   ·
    have q0:((over:Int) != 0)=true:=by rw[bne_iff_ne];omega
    have HLE:=Hi HRL.out;have hsz:=HON.out.size;rw[←HRL.out];have hrl2:rs.length<1099511627770:=by rw[HRL.out];exact hl
    go_wp2_with (at_builtin;refine wpList_append_lies _ rfl _ _ 60 rfl B 81 i0 (.int .u64 0) 1 8 Tryz.underlying60 HI.out HZ0.out HZ1.out HZ2.out rfl (by decide) _ rs.length (rs.map (fun n:Nat=>Value.int .u64 n)) rfl (Qlb HOW.out.owns ((Below.refl _ _).alloc (Nat.le_refl _) _)) ⟨wr.heap.size,0,none⟩ 1 1 [Value.int .u64 (over:Int)] rfl rfl ?c1 ?c2 (by decide) ?c3 ?c4 ?c5 _ rfl ?_)
    case c1=>exact World.news_of_block (heap_alloc_new wr _)
    case c2=>intro u hu;rw[List.mem_singleton.1 hu];rfl
    case c3=>unfold maxLen;omega
    case c4=>omega
    case c5=>rw[World.size_alloc];omega
    intro g2 cap2 w3 hown3 hgrow hat hlt3;have HO3:Hid (OwnB w3 B g2 cap2 (rs++ [over])):=Hi (OwnB.of (n:=rs.length+1) (by simp) (by rw[List.map_append];exact hown3));have HG:=Hi hgrow;clear hown3 hgrow hat hlt3;go_wp2;go_ret;have hBB:Below B w w3:=Below.grown ((HON.out.below HO.out.base hBw).alloc (by omega) _) HG.out (by rw[World.size_alloc];omega) (fun q hq=>by
     simp[Value.ownBlock] at hq;subst hq;exact HO.out.base)
    refine⟨⟨g2,cap2,rs++ [over],by simp,HO3.out,?_,by rw[List.length_append,HRL.out];simp⟩,hBB,hBB.size⟩;refine⟨HRS.out.append (fun e he=>by rw[List.mem_singleton.1 he];exact hov),.inr ?_,by rw[Qak];exact HV2.out⟩;simp;omega
theorem Qpk(L:Int)(n:Nat)(hL:L=n)(hn:n≤2199023255552)(w:World):
 (Instr.makeSlice 60 (.int .i64 0) (.int .i64 L)).run Tryz.prog w=.ok (.slice (some ⟨w.heap.size,0,none⟩) 0 n) (w.alloc (.cells (wordCells .u64 (zeros n)) 81)):=by
 subst hL;obtain⟨i,hi,hz,hs,hb⟩:=Tryz.info64';have hr:=run_make (P:=Tryz.prog) w 60 81 i (.int .u64 0) Tryz.underlying60 hi hz .i64 .i64 0 n (by omega) (by omega) (by rw[hb];omega) (by omega);simp only[Int.toNat_natCast,hs,Nat.mul_one] at hr;rw[←Qci];exact hr
theorem Qpl(l:List UInt8):decVal (48 :: l)=decVal l:=by
 unfold decVal;rw[List.foldl_cons];rfl
theorem Qpm(l:List UInt8):decVal (Lib.trimLeftB l 48)=decVal l:=by
 induction l with
 |nil=>rfl
 |cons c l ih=>
  unfold Lib.trimLeftB at ih ⊢;rw[List.dropWhile_cons]
  split
  ·
   rename_i h;have:c=48:=by simpa using h
   rw[ih,this,Qpl]
  · rfl
theorem Qpn{l:List UInt8}(h:AllDigits l):AllDigits (Lib.trimLeftB l 48):=fun c hc=>h c ((List.dropWhile_sublist _).mem hc)
theorem Qpo(l:List UInt8):(Lib.trimLeftB l 48).length≤l.length:=(List.dropWhile_sublist _).length_le
theorem Qag(s:ByteArray):s.data.toList.length=s.size:=by simp
theorem Qh3(r:ByteArray)(N:Nat)(hN:N≤r.size):r.data.toList=(r.extract 0 N).data.toList++(r.extract N r.size).data.toList∧(r.extract 0 N).size=N∧(r.extract N r.size).size=r.size - N:=by
 have hl:=Qag r;refine⟨?_,by simp;omega,by simp⟩;rw[Lib.extract_data,Lib.extract_data,List.drop_zero,Nat.sub_zero,List.take_of_length_le (l:=r.data.toList.drop N) (by rw[List.length_drop];omega),List.take_append_drop]
def strLen:Value→Nat
 | .string s=>s.size
 |_=>0
theorem Qpp(s:ByteArray)(w:World):
 Calls Tryz.prog 124 #[.string s,.string ⟨#[48]⟩] w fun e w'=>e=.returned (.string ⟨(Lib.trimLeftB s.data.toList 48).toArray⟩)∧w'=w:=Any.strings_TrimLeft_one Tryz.lays161 s 48 (by decide) w
set_option maxRecDepth 100000 in
set_option maxHeartbeats 1000000 in
theorem Qh4(s:ByteArray)(w:World)(hs:s.size≤1073741824)(hd:AllDigits s.data.toList):
 Calls Tryz.prog 69 #[.string s] w (Nat64 w (decVal s.data.toList)):=by
 obtain⟨t,ht⟩:∃t,(⟨(Lib.trimLeftB s.data.toList 48).toArray⟩:ByteArray)=t:=⟨_,rfl⟩;have hte:t.data.toList=Lib.trimLeftB s.data.toList 48:=by rw[←ht]
 have hts:t.size≤1073741824:=by
  have:=Qpo s.data.toList;rw[←hte,Qag,Qag] at this;omega
 have HV:=Hi (show decVal t.data.toList=decVal s.data.toList by rw[hte,Qpm]);have HD:=Hi (show AllDigits t.data.toList by rw[hte];exact Qpn hd);have HTR:=Hi (Qpp s w);rw[ht] at HTR;clear ht hte hd;obtain⟨q,hq⟩:∃q:Nat,t.size / 19=q:=⟨_,rfl⟩;have q1:(t.size:Int) / 19=(q:Int):=by omega
 have q2:Int.tdiv (t.size:Int) 19=(q:Int):=by rw[←q1];exact Int.tdiv_eq_ediv_of_nonneg (by omega)
 have hqb:q≤1073741824:=by omega
 have hmk:∀w,(Instr.makeSlice 60 (.int .i64 0) (.int .i64 ((q:Int)+1))).run Tryz.prog w=.ok (.slice (some ⟨w.heap.size,0,none⟩) 0 (q+1)) (w.alloc (.cells (wordCells .u64 (zeros (q+1))) 81)):=
  fun w=>Qpk _ (q+1) (by omega) (by omega) w
 go_enter Tryz.func69,Tryz.ntmps69;go_wp2_with fail;go_fit HTR.out;rintro e w ⟨rfl,hw⟩;subst hw;clear HTR;go_wp2_with fail;clear hmk q1 q2;go_loopw [0,3] (fun sv xv wr=>∃(r:ByteArray) (pre:List UInt8) (g cap:Nat) (ws:List Nat),sv=.string r∧xv=.slice (some ⟨g,0,none⟩) ws.length cap∧t.data.toList=pre++r.data.toList∧(pre= []∨r.size % 19=0)∧OwnB wr w.heap.size g cap ws∧Num 18446744073709551616 ws (decVal pre)∧ws.length≤pre.length∧Below w.heap.size w wr) (fun sv _ _=>strLen sv)
 case atStart=>
  refine⟨t,[],w.heap.size,q+1,[],rfl,rfl,rfl,.inl rfl,⟨Nat.le_refl _,by simp,by unfold maxLen;omega,_,SB.new _ _ _,by simp[wordCells,zeros],by simp⟩,Num.zero _,by simp,(Below.refl _ _).alloc (Nat.le_refl _) _⟩
 case round=>
  obtain⟨r,pre,g,cap,ws,rfl,rfl,hcat,hfst,hown,hnum,hlen,hb⟩:=hrel;have HF:=Hi hfst;clear hfst;have HC:=Hi hcat;have HO:=Hi hown;have HN:=Hi hnum;have HB:=Hi hb;have hpl:pre.length+r.size=t.size:=by rw[←Qag r,←Qag t,hcat,List.length_append]
  have HDR:Hid (AllDigits r.data.toList):=Hi (fun c hc=>HD.out c (by rw[hcat];exact List.mem_append_right _ hc));clear hcat hown hnum hb;by_cases h0:r.toList= []
  ·
   go_wp2;go_ret;have hr0:r.data.toList= []:=(Qdn r).1 h0;have hpre:pre=t.data.toList:=by have:=HC.out;rw[hr0,List.append_nil] at this;exact this.symm
   refine⟨⟨_,_,ws,rfl,HO.out.pre.row _ HO.out.fit,?_,by omega⟩,HB.out⟩;rw[←HV.out,←hpre];exact HN.out
  ·
   have hr1:0<r.size:=by
    rcases Nat.eq_zero_or_pos r.size with h|h
    · exact absurd ((Qdn r).2 (List.length_eq_zero_iff.1 (by rw[Qag];exact h))) h0
    · exact h
   have hne:r.toList.isEmpty=false:=by simp[h0]
   obtain⟨m,hm⟩:∃m:Nat,r.size % 19=m:=⟨_,rfl⟩;have m1:(r.size:Int) % 19=(m:Int):=by omega
   have m2:Int.tmod (r.size:Int) 19=(m:Int):=by rw[←m1];exact Int.tmod_eq_emod_of_nonneg (by omega)
   by_cases hm0:m=0
   ·
    subst hm0;obtain⟨hcat,hcs,hrs⟩:=Qh3 r 19 (by omega);have HCAT:=Hi hcat;have HCD:Hid (AllDigits (r.extract 0 19).data.toList):=Hi (fun c hc=>HDR.out c (by rw[hcat];exact List.mem_append_left _ hc));have HPC:=Hi (fun w=>Qh7 (r.extract 0 19) w (by omega) HCD.out);obtain⟨V,hV⟩:∃V,decVal (r.extract 0 19).data.toList=V:=⟨_,rfl⟩;have hVb:V<18446744073709551616:=by
     have h1:=Qaw _ HCD.out;rw[hV,Qag,hcs] at h1;have h3:10 ^ 19≤10 ^ 19:=Nat.pow_le_pow_right (by decide) (by omega);omega
    rw[hV] at HPC;have HVV:=Hi hV;have HCS:=Hi (hcs.trans rfl);obtain⟨CH,hCH⟩:∃CH,r.extract 0 19=CH:=⟨_,rfl⟩;obtain⟨RS,hRS⟩:∃RS,r.extract 19 r.size=RS:=⟨_,rfl⟩;rw[hCH,hRS] at HCAT;rw[hCH] at HCS HVV HPC;rw[hRS] at hrs;have HCH:=Hi hCH;have HRS:=Hi hRS;have HAC:=Hi (Qh2 w.heap.size g cap ws (decVal pre) V wr HO.out HN.out hVb (by omega) HB.out.size);clear hcat hcs hV hCH hRS;go_wp2_with fail;rw[HCH.out];go_fit (HPC.out _);rintro e w2 ⟨rfl,hw2⟩;subst hw2;clear HPC;go_wp2_with fail;go_fit HAC.out;rintro e w3 ⟨⟨g3,cap3,ws3,rfl,ho3,hn3,hl3⟩,hb3,hsz3⟩;have HO3:=Hi ho3;have HN3:=Hi hn3;have HB3:=Hi (HB.out.trans hb3);clear HAC ho3 hn3 hb3;go_wp2;rw[HRS.out];go_roundw
    case rel=>
     refine⟨RS,pre++CH.data.toList,g3,cap3,ws3,rfl,rfl,?_,.inr (by omega),HO3.out,?_,?_,HB3.out⟩
     · rw[HC.out,HCAT.out,List.append_assoc]
     · rw[Qc4,HVV.out,Qag,HCS.out,show (10:Nat) ^ 19=10000000000000000000 from rfl]
       exact HN3.out
     · rw[List.length_append,Qag,HCS.out];omega
    case measure=>simp[strLen];omega
   ·
    have z0:((m:Int) == 0)=false:=by rw[beq_eq_false_iff_ne];omega
    have hpre:decVal pre*10 ^ m=decVal pre*10000000000000000000:=by rcases HF.out with h|h;rw[h];simp[decVal];omega
    have HPRE:=Hi hpre;clear hpre;obtain⟨hcat,hcs,hrs⟩:=Qh3 r m (by omega);have HCAT:=Hi hcat;have HCD:Hid (AllDigits (r.extract 0 m).data.toList):=Hi (fun c hc=>HDR.out c (by rw[hcat];exact List.mem_append_left _ hc));have HPC:=Hi (fun w=>Qh7 (r.extract 0 m) w (by omega) HCD.out);obtain⟨V,hV⟩:∃V,decVal (r.extract 0 m).data.toList=V:=⟨_,rfl⟩;have hVb:V<18446744073709551616:=by
     have h1:=Qaw _ HCD.out;rw[hV,Qag,hcs] at h1;have h3:10 ^ m≤10 ^ 19:=Nat.pow_le_pow_right (by decide) (by omega);omega
    rw[hV] at HPC;have HVV:=Hi hV;have HCS:=Hi (hcs.trans rfl);obtain⟨CH,hCH⟩:∃CH,r.extract 0 m=CH:=⟨_,rfl⟩;obtain⟨RS,hRS⟩:∃RS,r.extract m r.size=RS:=⟨_,rfl⟩;rw[hCH,hRS] at HCAT;rw[hCH] at HCS HVV HPC;rw[hRS] at hrs;have HCH:=Hi hCH;have HRS:=Hi hRS;have HAC:=Hi (Qh2 w.heap.size g cap ws (decVal pre) V wr HO.out HN.out hVb (by omega) HB.out.size);clear hcat hcs hV hCH hRS;go_wp2_with fail;rw[HCH.out];go_fit (HPC.out _);rintro e w2 ⟨rfl,hw2⟩;subst hw2;clear HPC;go_wp2_with fail;go_fit HAC.out;rintro e w3 ⟨⟨g3,cap3,ws3,rfl,ho3,hn3,hl3⟩,hb3,hsz3⟩;have HO3:=Hi ho3;have HN3:=Hi hn3;have HB3:=Hi (HB.out.trans hb3);clear HAC ho3 hn3 hb3;go_wp2;rw[HRS.out];go_roundw
    case rel=>
     refine⟨RS,pre++CH.data.toList,g3,cap3,ws3,rfl,rfl,?_,.inr (by omega),HO3.out,?_,?_,HB3.out⟩
     · rw[HC.out,HCAT.out,List.append_assoc]
     · rw[Qc4,HVV.out,Qag,HCS.out,HPRE.out]
       exact HN3.out
     · rw[List.length_append,Qag,HCS.out];omega
    case measure=>simp[strLen];omega
end Go.Proofs.YtodfmpjhcmapmaaGreatDoor
