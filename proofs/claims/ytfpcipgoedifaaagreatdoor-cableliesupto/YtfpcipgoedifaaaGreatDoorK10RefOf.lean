/- rafterref's onlyDigits, Of: what a text counts as. -/
import Derived.Test.YtfpcipgoedifaaaGreatDoorK09Shelf
namespace Go.Proofs.YtfpcipgoedifaaaGreatDoor
open Go.RowKit
set_option linter.unusedVariables false
set_option linter.unusedSimpArgs false
theorem Qj6(s p:ByteArray)(w:World):
 Calls Tryz.prog 29 #[.string s,.string p] w fun e w'=>e=.returned (.bool (Lib.hasPrefix s.data.toList p.data.toList))/\w'=w:=Any.strings_HasPrefix Tryz.lays99 s p w
theorem Qj7(s sep:ByteArray)(n:Nat)(m:Int)(w:World)(hs:s.size<4294967281)(hm:w.cell? ⟨0,0,none⟩=some (.int .i64 m))(h1:1<=sep.size)(hn:1<=n)(hn63:n<=9223372036854775807):
 Calls Tryz.prog 30 #[.string s,.string sep,.int .i64 n] w fun e w'=>
  e=.returned (.slice (some ⟨w.heap.size,0,none⟩) (Lib.splitB sep 0 (min n (s.size+1) - 1) s).length (min n (s.size+1)))/\w'=w.alloc (.cells (Lib.cellsOf (Lib.splitB sep 0 (min n (s.size+1) - 1) s) (min n (s.size+1))) 9):=Any.strings_SplitN Tryz.lays147 (by kernel_rfl) s sep n m w hs hm h1 hn hn63
theorem Qfz(s cutset:ByteArray)(w:World)(hs:s.size<=9223372036854775807)(hcs:cutset.size<4294967281)(hascii:∀(j:Nat) b,cutset.data.toList[j]?=some b->b.toNat<128):
 Calls Tryz.prog 32 #[.string s,.string cutset] w fun e w'=>e=.returned (.string ⟨(Lib.trimS s.data.toList cutset.data.toList).toArray⟩)/\Below w.heap.size w w':=Any.strings_Trim_laid Tryz.lays160 (by kernel_rfl) s cutset w hs hcs hascii
theorem Qj8{p:UInt8->Bool}{l:List UInt8}{c:UInt8}(h:c∈ l.takeWhile p):p c=true:=by
 induction l with
 |nil=>simp at h
 |cons d l ih=>
  rw[List.takeWhile_cons] at h;by_cases hd:p d=true
  ·
   rw[if_pos hd] at h;rcases List.mem_cons.1 h with rfl|h
   · exact hd
   · exact ih h
  · rw[if_neg hd] at h;cases h
theorem Qsm{p:UInt8->Bool}{l:List UInt8}(h:∀c,c∈ l->p c=true):l.dropWhile p= []:=by
 induction l with
 |nil=>rfl
 |cons d l ih=>
  rw[List.dropWhile_cons,if_pos (h d (List.mem_cons_self ..))];exact ih fun c hc=>h c (List.mem_cons_of_mem _ hc)
theorem Qj9(l cs:List UInt8):Lib.trimS l cs= []↔∀c,c∈ l->cs.contains c=true:=by
 unfold Lib.trimS Lib.trimLeftS Lib.trimRightS;constructor
 ·
  intro h c hc;apply bC;intro hn;have h1:c∈ (l.reverse.dropWhile (cs.contains ·)).reverse:=by
   rw[List.mem_reverse];have h2:c∈ l.reverse:=List.mem_reverse.2 hc;rw[<-List.takeWhile_append_dropWhile (p:=(cs.contains ·)) (l:=l.reverse)] at h2;rcases List.mem_append.1 h2 with h2|h2
   · have:=Qj8 (p:=(cs.contains ·)) h2
     exact absurd this hn
   · exact h2
  rw[<-List.takeWhile_append_dropWhile (p:=(cs.contains ·)) (l:=(l.reverse.dropWhile (cs.contains ·)).reverse),h,List.append_nil] at h1;exact absurd (Qj8 (p:=(cs.contains ·)) h1) hn
 ·
  intro h;have h1:l.reverse.dropWhile (cs.contains ·)= []:=by
   exact Qsm fun c hc=>h c (List.mem_reverse.1 hc)
  rw[h1];rfl
theorem Qka(c:UInt8):([48,49,50,51,52,53,54,55,56,57]:List UInt8).contains c=true↔48<=c.toNat/\c.toNat<=57:=by
 constructor
 ·
  intro h;simp at h;rcases h with rfl|rfl|rfl|rfl|rfl|rfl|rfl|rfl|rfl|rfl<;>decide
 ·
  rintro⟨h1,h2⟩;have:c=UInt8.ofNat c.toNat:=by simp
  rw[this];generalize c.toNat=n at*;have:n=48∨n=49∨n=50∨n=51∨n=52∨n=53∨n=54∨n=55∨n=56∨n=57:=by omega
  rcases this with rfl|rfl|rfl|rfl|rfl|rfl|rfl|rfl|rfl|rfl<;>decide
theorem Qsn(l:List UInt8):Lib.trimS l [48,49,50,51,52,53,54,55,56,57]= []↔AllDigits l:=by
 rw[Qj9];exact⟨fun h c hc=>(Qka c).1 (h c hc),fun h c hc=>(Qka c).2 (h c hc)⟩
theorem Qkb(l:List UInt8)(h:AllDigits l):Lib.trimS l [48]= []↔decVal l=0:=by
 rw[Qj9]
 induction l with
 |nil=>simp[decVal]
 |cons c l ih=>
  have hc:=h c (List.mem_cons_self ..);have ih:=ih fun d hd=>h d (List.mem_cons_of_mem _ hd)
  have e:decVal (c :: l)=(c.toNat - 48)*10 ^ l.length+decVal l:=by
   have:=Qbz [c] l
   simpa [decVal] using this
  have hp:0<10 ^ l.length:=Nat.pow_pos (by decide);rw[e];constructor
  ·
   intro h1;have h2:=ih.1 fun d hd=>h1 d (List.mem_cons_of_mem _ hd)
   have h3:=h1 c (List.mem_cons_self ..);have h4:c=48:=by simpa using h3
   rw[h2,h4];simp
  ·
   intro h1;have h2:decVal l=0:=by omega
   have h3:(c.toNat - 48)*10 ^ l.length=0:=by omega
   have h4:c.toNat - 48=0:=by
    rcases Nat.mul_eq_zero.1 h3 with h|h
    · exact h
    · omega
   have h5:c=48:=by
    have:c.toNat=48:=by omega
    exact UInt8.toNat_inj.1 this
   intro d hd;rcases List.mem_cons.1 hd with rfl|hd
   · rw[h5];rfl
   · exact ih.2 h2 d hd
theorem Qso{s st:ByteArray}(h:(⟨(Lib.trimS s.data.toList [48,49,50,51,52,53,54,55,56,57]).toArray⟩:ByteArray)=st):st.toList= []↔AllDigits s.data.toList:=by
 subst h;rw[Lib.toList_data];exact Qsn _
set_option maxHeartbeats 400000 in
theorem Qb7(s:ByteArray)(w:World)(hs:s.size<=1073741824):
 Calls Tryz.prog 31 #[.string s] w fun e w'=>(∃v,e=.returned (.bool v)/\(v=true↔IsDig s.data.toList))/\Below w.heap.size w w':=by
 have HD:=Hi (Lib.toList_data s);by_cases h0:s.toList= []
 ·
  go_enter Tryz.func31,Tryz.ntmps31;go_wp2_with fail;go_ret;exact⟨⟨false,rfl,by rw[<-HD.out];simp[IsDig,h0]⟩,Below.refl _ _⟩
 ·
  go_enter Tryz.func31,Tryz.ntmps31;go_wp2_with fail;refine(Qfz s _ _ (by omega) (by decide) (ascii_of_all (by decide))).mono ?_;rintro e w1 ⟨rfl,hb⟩;have HB:=Hi hb;clear hb;obtain⟨st,hst⟩:=nm ((⟨(Lib.trimS s.data.toList [48,49,50,51,52,53,54,55,56,57]).toArray⟩:ByteArray));rw[show (⟨#[48,49,50,51,52,53,54,55,56,57]⟩:ByteArray).data.toList= [48,49,50,51,52,53,54,55,56,57] from rfl,hst];have HI:=Hi (Qso hst);clear hst;by_cases h1:st.toList= []
  ·
   go_wp2;go_ret;refine⟨⟨_,rfl,?_⟩,HB.out⟩;have h2:IsDig s.data.toList:=⟨by rw[<-HD.out];exact h0,HI.out.1 h1⟩;simp[h0,h2]
  ·
   go_wp2;go_ret;refine⟨⟨_,rfl,?_⟩,HB.out⟩;have h2:¬IsDig s.data.toList:=fun h=>h1 (HI.out.2 h.2)
   simp[h1,h2]
theorem Qkc(t:ByteArray)(k:Nat)(h:(Lib.cut t.data.toList [47]).2.2=false):Lib.splitB ⟨#[47]⟩ 0 k t= [t]/\(Lib.cut t.data.toList [47]).1=t.data.toList:=by
 have hi:¬(0<=Lib.index t.data.toList [47]):=by
  intro hc;unfold Lib.cut at h;rw[if_pos hc] at h;cases h
 constructor
 ·
  apply Lib.splitB_miss;have:=Lib.index_ge t.data.toList [47]
  show Lib.index t.data.toList [47]= -1
  omega
 · unfold Lib.cut
   rw[if_neg hi]
theorem Qkd(t:ByteArray)(h:(Lib.cut t.data.toList [47]).2.2=true):1<=t.size/\∃t0 t1:ByteArray,Lib.splitB ⟨#[47]⟩ 0 1 t= [t0,t1]/\t0.data.toList=(Lib.cut t.data.toList [47]).1/\t1.data.toList=(Lib.cut t.data.toList [47]).2.1/\t0.size<=t.size/\t1.size<=t.size:=by
 have hi:0<=Lib.index t.data.toList [47]:=by
  apply bC;intro hc;unfold Lib.cut at h;rw[if_neg hc] at h;cases h
 have hr:=Lib.index_room t.data.toList [47] hi;obtain⟨i,hii⟩:∃i:Nat,Lib.index t.data.toList [47]=i:=⟨(Lib.index t.data.toList [47]).toNat,by omega⟩;have hsz:t.data.toList.length=t.size:=by simp
 rw[hii] at hr;simp at hr;refine⟨by omega,t.extract 0 (i+0),t.extract (i+1) t.size,?_,?_,?_,?_,?_⟩
 · rw[Lib.splitB_hit ⟨#[47]⟩ 0 0 t i hii];rfl
 ·
  rw[Lib.extract_data];unfold Lib.cut;rw[if_pos hi,hii];simp
 ·
  rw[Lib.extract_data];unfold Lib.cut;rw[if_pos hi,hii];simp;rw[List.take_of_length_le (by simp)]
 · simp;omega
 · simp
theorem Qa1(w:World):RatVal (w.alloc (.cells #[.bool false,.slice none 0 0,.bool false,.slice none 0 0] 55)) w.heap.size 0:=
 ⟨0,none,0,[],none,0,[],⟨SB.new w _ _,⟨Row.nil _ _,Num.zero _,by simp⟩,⟨Row.nil _ _,Num.zero _,by simp⟩⟩,.inr ⟨rfl,rfl⟩⟩
theorem Qf0(w:World):(Thing.room w.heap.size).holds (w.alloc (.cells #[.bool false,.slice none 0 0,.bool false,.slice none 0 0] 55)):=RatVal.room (Qa1 w)
def NewRat(w:World)(q:Rat)(e:Ending)(w':World):Prop:=(∃b,e=.returned (.pointer (some ⟨b,0,none⟩))/\w.heap.size<=b/\RatVal w' b q)/\Below w.heap.size w w'
theorem Qb8{s:ByteArray}(h:IsDig s.data.toList):0<s.size:=by
 have:s.data.toList.length=s.size:=by simp
 have h1:s.data.toList.length≠0:=fun hc=>h.1 (List.length_eq_zero_iff.1 hc)
 omega
theorem Qke{l:List UInt8}{st:ByteArray}(h:(⟨l.toArray⟩:ByteArray)=st):st.toList= []↔l= []:=by
 subst h;rw[Lib.toList_data]
theorem Qb9{w w':World}{X:Int}{a:Option Addr}{cap:Nat}{l:List Nat}(h:Laid (w.alloc (.cells zeroInt 53)) w' w.heap.size 0 53 zeroInt X a cap l):IntAt w' w.heap.size 0 X a cap l/\Below w.heap.size w w':=
 ⟨h.at (by simp[zeroInt]),Only.fresh (bR.alloc lZ _) h.only lZ⟩
set_option maxRecDepth 100000 in
set_option maxHeartbeats 4000000 in
theorem Qsp(s:ByteArray)(m:Int)(w:World)(hm:w.cell? ⟨0,0,none⟩=some (.int .i64 m))(hs:s.size<=1073741824)(hp:Lib.hasPrefix s.data.toList [45]=false):
 Calls Tryz.prog 10 #[.string s] w fun e w'=>∃q,QOf s.data.toList q/\NewRat w q e w':=by
 have HP:=Hi hp;have HT:=Hi (show Lib.trimPrefix s.data.toList [45]=s.data.toList by unfold Lib.trimPrefix;rw[hp];rfl);clear hp;go_enter Tryz.func10,Tryz.ntmps10;go_wp2_with fail;refine(Qj6 s ⟨#[45]⟩ w).mono ?_;rw[show (⟨#[45]⟩:ByteArray).data.toList= [45] from rfl,HP.out];rintro e w ⟨rfl,hw⟩;subst hw;go_wp2_with fail;refine(Qj7 s ⟨#[47]⟩ 2 m w (by omega) hm (by decide) (by decide) (by decide)).mono ?_;rintro e w1 ⟨rfl,hw1⟩;by_cases hc:(Lib.cut s.data.toList [47]).2.2=true
 ·
  obtain⟨h1,t0,t1,hsp,ht0,ht1,hz0,hz1⟩:=Qkd s hc;have e2:min 2 (s.size+1)=2:=by omega
  rw[e2,hsp] at hw1;rw[e2,hsp];have hb1:Below w.heap.size w w1:=by rw[hw1];exact(Below.refl _ _).alloc lZ _
  have hsb:SB w1 w.heap.size 9 #[.string t0,.string t1]:=by rw[hw1];exact SB.new w _ _
  have c0:w1.cell? ⟨w.heap.size,0,none⟩=some (.string t0):=hsb.cell 0;have c1:w1.cell? ⟨w.heap.size,1,none⟩=some (.string t1):=hsb.cell 1;have hlt1:=hsb.lt;have HB1:=Hi hb1;have HC0:=Hi c0;have HC1:=Hi c1;have HY:=Hi (Below.refl w1.heap.size w1);have HH0:=Hi ht0;have HH1:=Hi ht1;have HCU:=Hi hc;clear hw1 hsb hb1 hsp e2 ht0 ht1 hc;go_wp2_with fail;refine(Qb7 t0 _ (by omega)).mono ?_;rintro e w2 ⟨⟨v0,rfl,hv0⟩,hb⟩;have HV0:=Hi hv0;clear hv0;have HY2:=Hi (HY.out.trans (hb.mono HY.out.size));clear HY c0 c1;have HY:=HY2;clear HY2 hb;have c0:=ce HY.out hlt1 HC0.out;have c1:=ce HY.out hlt1 HC1.out;have c0a:=fun o=>ce (HY.out.alloc HY.out.size o) hlt1 HC0.out
  have c1a:=fun o=>ce (HY.out.alloc HY.out.size o) hlt1 HC1.out
  cases v0
  ·
   have HCC:Hid (¬QForm s.data.toList):=Hi (fun h=>Bool.false_ne_true (HV0.out.2 (by rw[HH0.out];exact h.1)));go_wp2;go_ret;have hx:=HB1.out.trans (HY.out.mono (Nat.le_of_lt hlt1));exact⟨_,⟨0,by rw[HT.out];exact .inr ⟨HCC.out,rfl⟩,by rw[HP.out];rfl⟩,⟨_,rfl,hx.size,Qa1 _⟩,hx.alloc hx.size _⟩
  ·
   go_wp2_with fail;refine(Qb7 t1 _ (by omega)).mono ?_;rintro e w3 ⟨⟨v1,rfl,hv1⟩,hb⟩;have HV1:=Hi hv1;clear hv1;have HY2:=Hi (HY.out.trans (hb.mono HY.out.size));clear HY c0 c1 c0a c1a;have HY:=HY2;clear HY2 hb;have c0:=ce HY.out hlt1 HC0.out;have c1:=ce HY.out hlt1 HC1.out;have c0a:=fun o=>ce (HY.out.alloc HY.out.size o) hlt1 HC0.out
   have c1a:=fun o=>ce (HY.out.alloc HY.out.size o) hlt1 HC1.out
   cases v1
   ·
    have HCC:Hid (¬QForm s.data.toList):=Hi (fun h=>Bool.false_ne_true (HV1.out.2 (by rw[HH1.out];exact(h.2 HCU.out).1)));go_wp2;go_ret;have hx:=HB1.out.trans (HY.out.mono (Nat.le_of_lt hlt1));exact⟨_,⟨0,by rw[HT.out];exact .inr ⟨HCC.out,rfl⟩,by rw[HP.out];rfl⟩,⟨_,rfl,hx.size,Qa1 _⟩,hx.alloc hx.size _⟩
   ·
    go_wp2_with fail;refine(Qfz t1 _ _ (by omega) (by decide) (ascii_of_all (by decide))).mono ?_;rintro e w4 ⟨rfl,hb⟩;obtain⟨st,hst⟩:=nm ((⟨(Lib.trimS t1.data.toList [48]).toArray⟩:ByteArray));rw[show (⟨#[48]⟩:ByteArray).data.toList= [48] from rfl,hst];have HD0:=Hi (HV0.out.1 (by first|rfl|trivial));have HD1:=Hi (HV1.out.1 (by first|rfl|trivial));have HI:=Hi ((Qke hst).trans (Qkb t1.data.toList HD1.out.2));clear hst;have HY2:=Hi (HY.out.trans (hb.mono HY.out.size));clear HY c0 c1 c0a c1a;have HY:=HY2;clear HY2 hb;have c0:=ce HY.out hlt1 HC0.out;have c1:=ce HY.out hlt1 HC1.out;have c0a:=fun o=>ce (HY.out.alloc HY.out.size o) hlt1 HC0.out
    have c1a:=fun o=>ce (HY.out.alloc HY.out.size o) hlt1 HC1.out
    by_cases hst:st.toList= []
    ·
     have hse:st.toList.isEmpty=true:=by simp[hst]
     have HCC:Hid (¬QForm s.data.toList):=Hi (fun h=>(h.2 HCU.out).2 (by rw[<-HH1.out];exact HI.out.1 hst));go_wp2;go_ret;have hx:=HB1.out.trans (HY.out.mono (Nat.le_of_lt hlt1));exact⟨_,⟨0,by rw[HT.out];exact .inr ⟨HCC.out,rfl⟩,by rw[HP.out];rfl⟩,⟨_,rfl,hx.size,Qa1 _⟩,hx.alloc hx.size _⟩
    ·
     have hse:st.toList.isEmpty=false:=by simp[hst]
     have HNZ:=Hi (fun h=>hst (HI.out.2 h));go_wp2_with fail;refine(Qb5 _ t0 _ (SB.new _ _ _) (Qb8 HD0.out) (by omega) HD0.out.2).mono ?_;rintro e w5 ⟨rfl,an,cn,ln,hl⟩;obtain⟨hn,hb⟩:=Qb9 hl;have hln:ln.length<1099511627770:=by
      have h1:=hn.num.len_dec (k:=t0.size) (by rw[Int.natAbs_natCast];have:=Qaz _ HD0.out.2;simpa using this);omega
     have HN:=Hi hn;clear hn hl;have HY2:=Hi (HY.out.trans (hb.mono HY.out.size));clear HY c0 c1 c0a c1a;have HY:=HY2;clear HY2 hb;have c0:=ce HY.out hlt1 HC0.out;have c1:=ce HY.out hlt1 HC1.out;have c0a:=fun o=>ce (HY.out.alloc HY.out.size o) hlt1 HC0.out
     have c1a:=fun o=>ce (HY.out.alloc HY.out.size o) hlt1 HC1.out
     go_wp2_with fail;refine(Qci 1 _ (by decide) (by decide)).mono ?_;rintro e w6 ⟨⟨b6,a6,cap6,l6,rfl,hb6',hs6,hu6⟩,hb⟩;have HN2:=Hi (HN.out.below hb);clear HN hb6' hs6 hu6;have HY2:=Hi (HY.out.trans (hb.mono HY.out.size));clear HY c0 c1 c0a c1a;have HY:=HY2;clear HY2 hb;have c0:=ce HY.out hlt1 HC0.out;have c1:=ce HY.out hlt1 HC1.out;have c0a:=fun o=>ce (HY.out.alloc HY.out.size o) hlt1 HC0.out
     have c1a:=fun o=>ce (HY.out.alloc HY.out.size o) hlt1 HC1.out
     go_wp2_with fail;refine(Qb5 _ t1 _ (SB.new _ _ _) (Qb8 HD1.out) (by omega) HD1.out.2).mono ?_;rintro e w7 ⟨rfl,ad,cd,ld,hl⟩;obtain⟨hd,hb⟩:=Qb9 hl;have hld:ld.length<1099511627770:=by
      have h1:=hd.num.len_dec (k:=t1.size) (by rw[Int.natAbs_natCast];have:=Qaz _ HD1.out.2;simpa using this);omega
     have HD:=Hi hd;have HN:=Hi (HN2.out.below hb);have HDP:Hid ((0:Int)<(decVal t1.data.toList:Nat)):=Hi (Int.natCast_pos.2 (Nat.pos_of_ne_zero HNZ.out));have HVQ:Hid (mkRat ((decVal t0.data.toList:Nat):Int) ((decVal t1.data.toList:Nat):Int).natAbs=mkRat (decVal (Lib.cut s.data.toList [47]).1:Nat) (if (Lib.cut s.data.toList [47]).2.2=true then decVal (Lib.cut s.data.toList [47]).2.1 else 1)):=Hi (by rw[Int.natAbs_natCast,HH0.out,HH1.out,if_pos HCU.out]);clear hd hl HN2;have HY2:=Hi (HY.out.trans (hb.mono HY.out.size));clear HY c0 c1 c0a c1a;have HY:=HY2;clear HY2 hb;have c0:=ce HY.out hlt1 HC0.out;have c1:=ce HY.out hlt1 HC1.out;have c0a:=fun o=>ce (HY.out.alloc HY.out.size o) hlt1 HC0.out
     have c1a:=fun o=>ce (HY.out.alloc HY.out.size o) hlt1 HC1.out
     go_wp2_with fail;have HFO:Hid (QForm s.data.toList):=Hi ⟨by rw[<-HH0.out];exact HD0.out,fun _=>⟨by rw[<-HH1.out];exact HD1.out,by rw[<-HH1.out];exact HNZ.out⟩⟩;refine(Qct _ _ _ _ _ _ 0 _ an cn ln _ 0 _ ad cd ld _ (SB.new _ _ _) (Qan _ _ _ _ _ _ _ _) (HN.out.alloc _) (HD.out.alloc _) HDP.out hln hld).mono ?_;rintro e w8 hok;have hx:=HB1.out.trans (HY.out.mono (Nat.le_of_lt hlt1));have hgx:=hx.size;have HV:=Hi hok.val;have HX8:=Hi (Only.fresh (hx.alloc hx.size _) hok.2.1 hx.size);obtain⟨rfl,hon,hr⟩:=hok;clear hon hr hx;go_wp2;go_ret;exact⟨_,⟨_,by rw[HT.out];exact .inl ⟨HFO.out,HVQ.out⟩,by rw[HP.out];rfl⟩,⟨_,rfl,hgx,HV.out⟩,HX8.out⟩
 ·
  have hc:(Lib.cut s.data.toList [47]).2.2=false:=by simpa using hc
  obtain⟨hsp,ht0⟩:=Qkc s (min 2 (s.size+1) - 1) hc;obtain⟨cp,hcp,hcp'⟩:∃cp,min 2 (s.size+1)=cp/\1<=cp:=⟨_,rfl,by omega⟩;rw[hsp,hcp] at hw1;rw[hsp,hcp];have hb1:Below w.heap.size w w1:=by rw[hw1];exact(Below.refl _ _).alloc lZ _
  have hsb:SB w1 w.heap.size 9 (Lib.cellsOf [s] cp):=by rw[hw1];exact SB.new w _ _
  have c0:w1.cell? ⟨w.heap.size,0,none⟩=some (.string s):=hsb.cell 0;have c1:=c0;have hlt1:=hsb.lt;have HB1:=Hi hb1;have HC0:=Hi c0;have HY:=Hi (Below.refl w1.heap.size w1);have HH0:=Hi ht0;have HCU:=Hi hc;clear hw1 hsb hb1 hsp ht0 hc hcp c1;rw[show [s].length=1 from rfl];go_wp2_with fail;refine(Qb7 s _ (by omega)).mono ?_;rintro e w2 ⟨⟨v0,rfl,hv0⟩,hb⟩;have HV0:=Hi hv0;clear hv0;have HY2:=Hi (HY.out.trans (hb.mono HY.out.size));clear HY c0;have HY:=HY2;clear HY2 hb;have c0:=ce HY.out hlt1 HC0.out;have c0a:=fun o=>ce (HY.out.alloc HY.out.size o) hlt1 HC0.out
  cases v0
  ·
   have HCC:Hid (¬QForm s.data.toList):=Hi (fun h=>Bool.false_ne_true (HV0.out.2 (by rw[<-HH0.out];exact h.1)));go_wp2;go_ret;have hx:=HB1.out.trans (HY.out.mono (Nat.le_of_lt hlt1));exact⟨_,⟨0,by rw[HT.out];exact .inr ⟨HCC.out,rfl⟩,by rw[HP.out];rfl⟩,⟨_,rfl,hx.size,Qa1 _⟩,hx.alloc hx.size _⟩
  ·
   have HD0:=Hi (HV0.out.1 (by first|rfl|trivial));go_wp2_with fail;refine(Qb5 _ s _ (SB.new _ _ _) (Qb8 HD0.out) (by omega) HD0.out.2).mono ?_;rintro e w5 ⟨rfl,an,cn,ln,hl⟩;obtain⟨hn,hb⟩:=Qb9 hl;have hln:ln.length<1099511627770:=by
    have h1:=hn.num.len_dec (k:=s.size) (by rw[Int.natAbs_natCast];have:=Qaz _ HD0.out.2;simpa using this);omega
   have HN0:=Hi hn;clear hn hl;have HY2:=Hi (HY.out.trans (hb.mono HY.out.size));clear HY c0 c0a;have HY:=HY2;clear HY2 hb;have c0:=ce HY.out hlt1 HC0.out;have c0a:=fun o=>ce (HY.out.alloc HY.out.size o) hlt1 HC0.out
   go_wp2_with fail;refine(Qci 1 _ (by decide) (by decide)).mono ?_;rintro e w6 ⟨⟨b6,ad,cd,ld,rfl,hb6',hs6,hu6⟩,hb⟩;have HN:=Hi (HN0.out.below hb);have hd:IntAt w6 b6 0 1 ad cd ld:=⟨by rw[hs6.cell];rfl,by rw[hs6.cell];rfl,hu6,hs6.lt⟩;have hld:ld.length<1099511627770:=by
    have:=hd.num.len_bits (k:=1) (by decide);omega
   have HD:=Hi hd;have HDP:Hid ((0:Int)<1):=Hi (by decide);have HVQ:Hid (mkRat ((decVal s.data.toList:Nat):Int) (1:Int).natAbs=mkRat (decVal (Lib.cut s.data.toList [47]).1:Nat) (if (Lib.cut s.data.toList [47]).2.2=true then decVal (Lib.cut s.data.toList [47]).2.1 else 1)):=Hi (by rw[HH0.out,HCU.out];rfl);clear hd HN0 hb6' hs6 hu6;have HY2:=Hi (HY.out.trans (hb.mono HY.out.size));clear HY c0 c0a;have HY:=HY2;clear HY2 hb;have c0:=ce HY.out hlt1 HC0.out;have c0a:=fun o=>ce (HY.out.alloc HY.out.size o) hlt1 HC0.out
   go_wp2_with fail;have HFO:Hid (QForm s.data.toList):=Hi ⟨by rw[HH0.out];exact HD0.out,fun h=>by rw[HCU.out] at h;cases h⟩;refine(Qct _ _ _ _ _ _ 0 _ an cn ln _ 0 _ ad cd ld _ (SB.new _ _ _) (Qan _ _ _ _ _ _ _ _) (HN.out.alloc _) (HD.out.alloc _) HDP.out hln hld).mono ?_;rintro e w8 hok;have hx:=HB1.out.trans (HY.out.mono (Nat.le_of_lt hlt1));have hgx:=hx.size;have HV:=Hi hok.val;have HX8:=Hi (Only.fresh (hx.alloc hx.size _) hok.2.1 hx.size);obtain⟨rfl,hon,hr⟩:=hok;clear hon hr hx;go_wp2;go_ret;exact⟨_,⟨_,by rw[HT.out];exact .inl ⟨HFO.out,HVQ.out⟩,by rw[HP.out];rfl⟩,⟨_,rfl,hgx,HV.out⟩,HX8.out⟩
set_option maxRecDepth 100000 in
set_option maxHeartbeats 4000000 in
theorem Qsq(s:ByteArray)(m:Int)(w:World)(hm:w.cell? ⟨0,0,none⟩=some (.int .i64 m))(hs:s.size<=1073741824)(hp:Lib.hasPrefix s.data.toList [45]=true):
 Calls Tryz.prog 10 #[.string s] w fun e w'=>∃q,QOf s.data.toList q/\NewRat w q e w':=by
 have HP:=Hi hp;have h1:1<=s.size:=by
  have hsz:s.data.toList.length=s.size:=by simp
  cases hl:s.data.toList with
  |nil=>rw[hl] at hp;simp[Lib.hasPrefix] at hp
  |cons c l=>rw[hl] at hsz;simp at hsz;omega
 obtain⟨t,ht⟩:=nm (s.extract 1 s.size);have HT:=Hi (show Lib.trimPrefix s.data.toList [45]=t.data.toList by
  rw[<-ht,Lib.extract_data];unfold Lib.trimPrefix;rw[if_pos hp,List.take_of_length_le (by simp)]
  rfl)
 have hts:t.size<=1073741824:=by rw[<-ht];simp;omega
 have HTE:=Hi ht;clear hp ht;go_enter Tryz.func10,Tryz.ntmps10;go_wp2_with fail;refine(Qj6 s ⟨#[45]⟩ w).mono ?_;rw[show (⟨#[45]⟩:ByteArray).data.toList= [45] from rfl,HP.out];rintro e w ⟨rfl,hw⟩;subst hw;go_wp2_with fail;rw[HTE.out];clear h1;refine(Qj7 t ⟨#[47]⟩ 2 m w (by omega) hm (by decide) (by decide) (by decide)).mono ?_;rintro e w1 ⟨rfl,hw1⟩;by_cases hc:(Lib.cut t.data.toList [47]).2.2=true
 ·
  obtain⟨h1,t0,t1,hsp,ht0,ht1,hz0,hz1⟩:=Qkd t hc;have e2:min 2 (t.size+1)=2:=by omega
  rw[e2,hsp] at hw1;rw[e2,hsp];have hb1:Below w.heap.size w w1:=by rw[hw1];exact(Below.refl _ _).alloc lZ _
  have hsb:SB w1 w.heap.size 9 #[.string t0,.string t1]:=by rw[hw1];exact SB.new w _ _
  have c0:w1.cell? ⟨w.heap.size,0,none⟩=some (.string t0):=hsb.cell 0;have c1:w1.cell? ⟨w.heap.size,1,none⟩=some (.string t1):=hsb.cell 1;have hlt1:=hsb.lt;have HB1:=Hi hb1;have HC0:=Hi c0;have HC1:=Hi c1;have HY:=Hi (Below.refl w1.heap.size w1);have HH0:=Hi ht0;have HH1:=Hi ht1;have HCU:=Hi hc;clear hw1 hsb hb1 hsp e2 ht0 ht1 hc;go_wp2_with fail;refine(Qb7 t0 _ (by omega)).mono ?_;rintro e w2 ⟨⟨v0,rfl,hv0⟩,hb⟩;have HV0:=Hi hv0;clear hv0;have HY2:=Hi (HY.out.trans (hb.mono HY.out.size));clear HY c0 c1;have HY:=HY2;clear HY2 hb;have c0:=ce HY.out hlt1 HC0.out;have c1:=ce HY.out hlt1 HC1.out;have c0a:=fun o=>ce (HY.out.alloc HY.out.size o) hlt1 HC0.out
  have c1a:=fun o=>ce (HY.out.alloc HY.out.size o) hlt1 HC1.out
  cases v0
  ·
   have HCC:Hid (¬QForm t.data.toList):=Hi (fun h=>Bool.false_ne_true (HV0.out.2 (by rw[HH0.out];exact h.1)));go_wp2;go_ret;have hx:=HB1.out.trans (HY.out.mono (Nat.le_of_lt hlt1));exact⟨_,⟨0,by rw[HT.out];exact .inr ⟨HCC.out,rfl⟩,by rw[HP.out];rfl⟩,⟨_,rfl,hx.size,Qa1 _⟩,hx.alloc hx.size _⟩
  ·
   go_wp2_with fail;refine(Qb7 t1 _ (by omega)).mono ?_;rintro e w3 ⟨⟨v1,rfl,hv1⟩,hb⟩;have HV1:=Hi hv1;clear hv1;have HY2:=Hi (HY.out.trans (hb.mono HY.out.size));clear HY c0 c1 c0a c1a;have HY:=HY2;clear HY2 hb;have c0:=ce HY.out hlt1 HC0.out;have c1:=ce HY.out hlt1 HC1.out;have c0a:=fun o=>ce (HY.out.alloc HY.out.size o) hlt1 HC0.out
   have c1a:=fun o=>ce (HY.out.alloc HY.out.size o) hlt1 HC1.out
   cases v1
   ·
    have HCC:Hid (¬QForm t.data.toList):=Hi (fun h=>Bool.false_ne_true (HV1.out.2 (by rw[HH1.out];exact(h.2 HCU.out).1)));go_wp2;go_ret;have hx:=HB1.out.trans (HY.out.mono (Nat.le_of_lt hlt1));exact⟨_,⟨0,by rw[HT.out];exact .inr ⟨HCC.out,rfl⟩,by rw[HP.out];rfl⟩,⟨_,rfl,hx.size,Qa1 _⟩,hx.alloc hx.size _⟩
   ·
    go_wp2_with fail;refine(Qfz t1 _ _ (by omega) (by decide) (ascii_of_all (by decide))).mono ?_;rintro e w4 ⟨rfl,hb⟩;obtain⟨st,hst⟩:=nm ((⟨(Lib.trimS t1.data.toList [48]).toArray⟩:ByteArray));rw[show (⟨#[48]⟩:ByteArray).data.toList= [48] from rfl,hst];have HD0:=Hi (HV0.out.1 (by first|rfl|trivial));have HD1:=Hi (HV1.out.1 (by first|rfl|trivial));have HI:=Hi ((Qke hst).trans (Qkb t1.data.toList HD1.out.2));clear hst;have HY2:=Hi (HY.out.trans (hb.mono HY.out.size));clear HY c0 c1 c0a c1a;have HY:=HY2;clear HY2 hb;have c0:=ce HY.out hlt1 HC0.out;have c1:=ce HY.out hlt1 HC1.out;have c0a:=fun o=>ce (HY.out.alloc HY.out.size o) hlt1 HC0.out
    have c1a:=fun o=>ce (HY.out.alloc HY.out.size o) hlt1 HC1.out
    by_cases hst:st.toList= []
    ·
     have hse:st.toList.isEmpty=true:=by simp[hst]
     have HCC:Hid (¬QForm t.data.toList):=Hi (fun h=>(h.2 HCU.out).2 (by rw[<-HH1.out];exact HI.out.1 hst));go_wp2;go_ret;have hx:=HB1.out.trans (HY.out.mono (Nat.le_of_lt hlt1));exact⟨_,⟨0,by rw[HT.out];exact .inr ⟨HCC.out,rfl⟩,by rw[HP.out];rfl⟩,⟨_,rfl,hx.size,Qa1 _⟩,hx.alloc hx.size _⟩
    ·
     have hse:st.toList.isEmpty=false:=by simp[hst]
     have HNZ:=Hi (fun h=>hst (HI.out.2 h));go_wp2_with fail;refine(Qb5 _ t0 _ (SB.new _ _ _) (Qb8 HD0.out) (by omega) HD0.out.2).mono ?_;rintro e w5 ⟨rfl,an,cn,ln,hl⟩;obtain⟨hn,hb⟩:=Qb9 hl;have hln:ln.length<1099511627770:=by
      have h1:=hn.num.len_dec (k:=t0.size) (by rw[Int.natAbs_natCast];have:=Qaz _ HD0.out.2;simpa using this);omega
     have HN:=Hi hn;clear hn hl;have HY2:=Hi (HY.out.trans (hb.mono HY.out.size));clear HY c0 c1 c0a c1a;have HY:=HY2;clear HY2 hb;have c0:=ce HY.out hlt1 HC0.out;have c1:=ce HY.out hlt1 HC1.out;have c0a:=fun o=>ce (HY.out.alloc HY.out.size o) hlt1 HC0.out
     have c1a:=fun o=>ce (HY.out.alloc HY.out.size o) hlt1 HC1.out
     go_wp2_with fail;refine(Qci 1 _ (by decide) (by decide)).mono ?_;rintro e w6 ⟨⟨b6,a6,cap6,l6,rfl,hb6',hs6,hu6⟩,hb⟩;have HN2:=Hi (HN.out.below hb);clear HN hb6' hs6 hu6;have HY2:=Hi (HY.out.trans (hb.mono HY.out.size));clear HY c0 c1 c0a c1a;have HY:=HY2;clear HY2 hb;have c0:=ce HY.out hlt1 HC0.out;have c1:=ce HY.out hlt1 HC1.out;have c0a:=fun o=>ce (HY.out.alloc HY.out.size o) hlt1 HC0.out
     have c1a:=fun o=>ce (HY.out.alloc HY.out.size o) hlt1 HC1.out
     go_wp2_with fail;refine(Qb5 _ t1 _ (SB.new _ _ _) (Qb8 HD1.out) (by omega) HD1.out.2).mono ?_;rintro e w7 ⟨rfl,ad,cd,ld,hl⟩;obtain⟨hd,hb⟩:=Qb9 hl;have hld:ld.length<1099511627770:=by
      have h1:=hd.num.len_dec (k:=t1.size) (by rw[Int.natAbs_natCast];have:=Qaz _ HD1.out.2;simpa using this);omega
     have HD:=Hi hd;have HN:=Hi (HN2.out.below hb);have HDP:Hid ((0:Int)<(decVal t1.data.toList:Nat)):=Hi (Int.natCast_pos.2 (Nat.pos_of_ne_zero HNZ.out));have HVQ:Hid (mkRat ((decVal t0.data.toList:Nat):Int) ((decVal t1.data.toList:Nat):Int).natAbs=mkRat (decVal (Lib.cut t.data.toList [47]).1:Nat) (if (Lib.cut t.data.toList [47]).2.2=true then decVal (Lib.cut t.data.toList [47]).2.1 else 1)):=Hi (by rw[Int.natAbs_natCast,HH0.out,HH1.out,if_pos HCU.out]);clear hd hl HN2;have HY2:=Hi (HY.out.trans (hb.mono HY.out.size));clear HY c0 c1 c0a c1a;have HY:=HY2;clear HY2 hb;have c0:=ce HY.out hlt1 HC0.out;have c1:=ce HY.out hlt1 HC1.out;have c0a:=fun o=>ce (HY.out.alloc HY.out.size o) hlt1 HC0.out
     have c1a:=fun o=>ce (HY.out.alloc HY.out.size o) hlt1 HC1.out
     go_wp2_with fail;have HFO:Hid (QForm t.data.toList):=Hi ⟨by rw[<-HH0.out];exact HD0.out,fun _=>⟨by rw[<-HH1.out];exact HD1.out,by rw[<-HH1.out];exact HNZ.out⟩⟩;refine(Qct _ _ _ _ _ _ 0 _ an cn ln _ 0 _ ad cd ld _ (SB.new _ _ _) (Qan _ _ _ _ _ _ _ _) (HN.out.alloc _) (HD.out.alloc _) HDP.out hln hld).mono ?_;rintro e w8 hok;have hx:=HB1.out.trans (HY.out.mono (Nat.le_of_lt hlt1));have hgx:=hx.size;have HV:=Hi hok.val;have HX8:=Hi (Only.fresh (hx.alloc hx.size _) hok.2.1 hx.size);obtain⟨rfl,hon,hr⟩:=hok;clear hon hr hx;go_wp2_with fail;have HQ:Hid (IsQ (Lib.trimPrefix s.data.toList [45]) _):=Hi (by rw[HT.out];exact .inl ⟨HFO.out,HVQ.out⟩);refine(Qj2 _ _ (4*1073741824+1) _ _ (RatVal.room HV.out) HV.out (HQ.out.fits (Nat.le_trans (Qd4 _ _) (by simpa using hs))) (by decide)).mono ?_;rintro e w9 hok;have HX9:=Hi (HX8.out.trans (hok.2.1.below hgx HX8.out.size));have HV9:=Hi hok.val
     obtain⟨rfl,hon,hr⟩:=hok;clear hon hr;go_wp2;go_ret;exact⟨_,⟨_,HQ.out,by rw[HP.out];rfl⟩,⟨_,rfl,hgx,HV9.out⟩,HX9.out⟩
 ·
  have hc:(Lib.cut t.data.toList [47]).2.2=false:=by simpa using hc
  obtain⟨hsp,ht0⟩:=Qkc t (min 2 (t.size+1) - 1) hc;obtain⟨cp,hcp,hcp'⟩:∃cp,min 2 (t.size+1)=cp/\1<=cp:=⟨_,rfl,by omega⟩;rw[hsp,hcp] at hw1;rw[hsp,hcp];have hb1:Below w.heap.size w w1:=by rw[hw1];exact(Below.refl _ _).alloc lZ _
  have hsb:SB w1 w.heap.size 9 (Lib.cellsOf [t] cp):=by rw[hw1];exact SB.new w _ _
  have c0:w1.cell? ⟨w.heap.size,0,none⟩=some (.string t):=hsb.cell 0;have c1:=c0;have hlt1:=hsb.lt;have HB1:=Hi hb1;have HC0:=Hi c0;have HY:=Hi (Below.refl w1.heap.size w1);have HH0:=Hi ht0;have HCU:=Hi hc;clear hw1 hsb hb1 hsp ht0 hc hcp c1;rw[show [t].length=1 from rfl];go_wp2_with fail;refine(Qb7 t _ (by omega)).mono ?_;rintro e w2 ⟨⟨v0,rfl,hv0⟩,hb⟩;have HV0:=Hi hv0;clear hv0;have HY2:=Hi (HY.out.trans (hb.mono HY.out.size));clear HY c0;have HY:=HY2;clear HY2 hb;have c0:=ce HY.out hlt1 HC0.out;have c0a:=fun o=>ce (HY.out.alloc HY.out.size o) hlt1 HC0.out
  cases v0
  ·
   have HCC:Hid (¬QForm t.data.toList):=Hi (fun h=>Bool.false_ne_true (HV0.out.2 (by rw[<-HH0.out];exact h.1)));go_wp2;go_ret;have hx:=HB1.out.trans (HY.out.mono (Nat.le_of_lt hlt1));exact⟨_,⟨0,by rw[HT.out];exact .inr ⟨HCC.out,rfl⟩,by rw[HP.out];rfl⟩,⟨_,rfl,hx.size,Qa1 _⟩,hx.alloc hx.size _⟩
  ·
   have HD0:=Hi (HV0.out.1 (by first|rfl|trivial));go_wp2_with fail;refine(Qb5 _ t _ (SB.new _ _ _) (Qb8 HD0.out) (by omega) HD0.out.2).mono ?_;rintro e w5 ⟨rfl,an,cn,ln,hl⟩;obtain⟨hn,hb⟩:=Qb9 hl;have hln:ln.length<1099511627770:=by
    have h1:=hn.num.len_dec (k:=t.size) (by rw[Int.natAbs_natCast];have:=Qaz _ HD0.out.2;simpa using this);omega
   have HN0:=Hi hn;clear hn hl;have HY2:=Hi (HY.out.trans (hb.mono HY.out.size));clear HY c0 c0a;have HY:=HY2;clear HY2 hb;have c0:=ce HY.out hlt1 HC0.out;have c0a:=fun o=>ce (HY.out.alloc HY.out.size o) hlt1 HC0.out
   go_wp2_with fail;refine(Qci 1 _ (by decide) (by decide)).mono ?_;rintro e w6 ⟨⟨b6,ad,cd,ld,rfl,hb6',hs6,hu6⟩,hb⟩;have HN:=Hi (HN0.out.below hb);have hd:IntAt w6 b6 0 1 ad cd ld:=⟨by rw[hs6.cell];rfl,by rw[hs6.cell];rfl,hu6,hs6.lt⟩;have hld:ld.length<1099511627770:=by
    have:=hd.num.len_bits (k:=1) (by decide);omega
   have HD:=Hi hd;have HDP:Hid ((0:Int)<1):=Hi (by decide);have HVQ:Hid (mkRat ((decVal t.data.toList:Nat):Int) (1:Int).natAbs=mkRat (decVal (Lib.cut t.data.toList [47]).1:Nat) (if (Lib.cut t.data.toList [47]).2.2=true then decVal (Lib.cut t.data.toList [47]).2.1 else 1)):=Hi (by rw[HH0.out,HCU.out];rfl);clear hd HN0 hb6' hs6 hu6;have HY2:=Hi (HY.out.trans (hb.mono HY.out.size));clear HY c0 c0a;have HY:=HY2;clear HY2 hb;have c0:=ce HY.out hlt1 HC0.out;have c0a:=fun o=>ce (HY.out.alloc HY.out.size o) hlt1 HC0.out
   go_wp2_with fail;have HFO:Hid (QForm t.data.toList):=Hi ⟨by rw[HH0.out];exact HD0.out,fun h=>by rw[HCU.out] at h;cases h⟩;refine(Qct _ _ _ _ _ _ 0 _ an cn ln _ 0 _ ad cd ld _ (SB.new _ _ _) (Qan _ _ _ _ _ _ _ _) (HN.out.alloc _) (HD.out.alloc _) HDP.out hln hld).mono ?_;rintro e w8 hok;have hx:=HB1.out.trans (HY.out.mono (Nat.le_of_lt hlt1));have hgx:=hx.size;have HV:=Hi hok.val;have HX8:=Hi (Only.fresh (hx.alloc hx.size _) hok.2.1 hx.size);obtain⟨rfl,hon,hr⟩:=hok;clear hon hr hx;go_wp2_with fail;have HQ:Hid (IsQ (Lib.trimPrefix s.data.toList [45]) _):=Hi (by rw[HT.out];exact .inl ⟨HFO.out,HVQ.out⟩);refine(Qj2 _ _ (4*1073741824+1) _ _ (RatVal.room HV.out) HV.out (HQ.out.fits (Nat.le_trans (Qd4 _ _) (by simpa using hs))) (by decide)).mono ?_;rintro e w9 hok;have HX9:=Hi (HX8.out.trans (hok.2.1.below hgx HX8.out.size));have HV9:=Hi hok.val;obtain⟨rfl,hon,hr⟩:=hok;clear hon hr;go_wp2;go_ret
   exact⟨_,⟨_,HQ.out,by rw[HP.out];rfl⟩,⟨_,rfl,hgx,HV9.out⟩,HX9.out⟩
theorem Qkf(s:ByteArray)(m:Int)(w:World)(hm:w.cell? ⟨0,0,none⟩=some (.int .i64 m))(hs:s.size<=1073741824):
 Calls Tryz.prog 10 #[.string s] w fun e w'=>∃q,QOf s.data.toList q/\NewRat w q e w':=by
 cases hp:Lib.hasPrefix s.data.toList [45]
 · exact Qsp s m w hm hs hp
 · exact Qsq s m w hm hs hp
end Go.Proofs.YtfpcipgoedifaaaGreatDoor
