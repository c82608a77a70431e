/- A range over a function whose values lie in memory: the loop's law, where what is handed over is told by the world in which it is. -/
import Derived.Test.YtldjeecnapgakaaGreatDoorS36ArkE
import Derived.RangeFuncNested
import Derived.RangeFuncLeaves
namespace Go.Proofs.YtldjeecnapgakaaGreatDoor
open Go.RowKit
set_option linter.unusedVariables false
set_option linter.unusedSimpArgs false
theorem LineV.call{v x y z:Value}{w:World}{st m pa qa ql qh qs:Rat}{k1 k2 k3 A E:Nat}(hl:LineV st m pa k1 k2 k3 (.func (.func 84) #[] #[x,y,z]) w)(hs:SV4 qa ql qh qs A E v w)(hk:k1+k2+k3+A+E<60000000000):
 Calls Tryz.prog 84 #[v,x,y,z] w (Makes w (FF (st+m*(qa - pa)+qs) (k1+(k2+(A+k3+1))+1+E+1))):=by
 obtain⟨lb,e,h⟩:=Qjs hl hs hk;cases e;exact h
theorem LineV.parts{v:Value}{w:World}{st m pa:Rat}{k1 k2 k3:Nat}(hl:LineV st m pa k1 k2 k3 v w):∃x y z,v=.func (.func 84) #[] #[x,y,z]:=by
 obtain⟨b1,b2,b3,_,_,_,_,_,_,rfl,_⟩:=hl;exact⟨_,_,_,rfl⟩
theorem Sto.get{A H:Nat}{vs:List V4}{h:Rat}{ts:List FE}{n i:Nat}{v:V4}{w:World}{g:Nat}(hs:Sto A H vs h ts n)(ht:TBlk 82 w g ts)(hi:i<n)(hn:n≤10)(hv:vs[i]?=some v):
 ∃a l u s:FE,(ts[i*4]?=some a∧ts[i*4+1]?=some l∧ts[i*4+2]?=some u∧ts[i*4+3]?=some s)∧FF v.1 A (.agg #[a.x,a.y,a.z]) w∧FF v.2.2.1 A (.agg #[l.x,l.y,l.z]) w∧FF v.2.2.2 A (.agg #[u.x,u.y,u.z]) w∧FF (shp (atF vs) (wtF vs) h i) (52*A+36*H+61) (.agg #[s.x,s.y,s.z]) w:=by
 obtain⟨a,l,u,s,i1,i2,i3,i4,q1,q2,q3,q4,r1,r2,r3,r4⟩:=hs.each i v hi hv;refine⟨a,l,u,s,⟨i1,i2,i3,i4⟩,?_,?_,?_,?_⟩
 · rw[←q1];exact FF.mono (ht.ok a (List.mem_of_getElem? i1)) r1
 · rw[←q2];exact FF.mono (ht.ok l (List.mem_of_getElem? i2)) r2
 · rw[←q3];exact FF.mono (ht.ok u (List.mem_of_getElem? i3)) r3
 · rw[←q4];exact FF.mono (ht.ok s (List.mem_of_getElem? i4)) (Nat.le_trans r4 (Qdw (by omega)))
theorem SV4.of{p q r t:Rat}{A E:Nat}{a l u s:FE}{w:World}(h1:FF p A (.agg #[a.x,a.y,a.z]) w)(h2:FF q A (.agg #[l.x,l.y,l.z]) w)(h3:FF r A (.agg #[u.x,u.y,u.z]) w)(h4:FF t E (.agg #[s.x,s.y,s.z]) w):
 SV4 p q r t A E (.agg #[a.x,a.y,a.z,l.x,l.y,l.z,u.x,u.y,u.z,s.x,s.y,s.z]) w:=
 ⟨⟨a.x,a.y,a.z,p,A⟩,⟨l.x,l.y,l.z,q,A⟩,⟨u.x,u.y,u.z,r,A⟩,⟨s.x,s.y,s.z,t,E⟩,rfl,h1,h2,h3,h4,rfl,rfl,rfl,rfl,Nat.le_refl _,Nat.le_refl _,Nat.le_refl _,Nat.le_refl _⟩
def lnV(st m pa:Rat)(vs:List V4)(h:Rat)(i:Nat):Rat:=st+m*(atF vs i - pa)+shp (atF vs) (wtF vs) h i
theorem Qdy{st m pa:Rat}{vs:List V4}{h:Rat}{i:Nat}{v:V4}(hv:vs[i]?=some v):lnV st m pa vs h i=st+m*(v.1 - pa)+shp (atF vs) (wtF vs) h i:=by
 unfold lnV;rw[show atF vs i=v.1 by simp[atF,hv]]
def fitsTo(vs:List V4)(y:Nat→Rat)(k:Nat):Prop:=∀i,i<k→loF vs i≤y i∧y i≤hiF vs i
theorem Qjt{vs:List V4}{y:Nat→Rat}{k:Nat}{v:V4}(hv:vs[k]?=some v):fitsTo vs y (k+1)↔fitsTo vs y k∧v.2.2.1≤y k∧y k≤v.2.2.2:=by
 have e1:loF vs k=v.2.2.1:=by simp[loF,hv]
 have e2:hiF vs k=v.2.2.2:=by simp[hiF,hv]
 constructor
 ·
  intro h;have:=h k (by omega);rw[e1,e2] at this;exact⟨fun i hi=>h i (by omega),this⟩
 ·
  rintro⟨h1,h2⟩ i hi;rcases Nat.lt_or_ge i k with h|h
  · exact h1 i h
  · rw[show i=k by omega,e1,e2];exact h2
theorem Qfm{vs:List V4}{y:Nat→Rat}{j k:Nat}(h:j≤k)(hf:fitsTo vs y k):fitsTo vs y j:=fun i hi=>hf i (by omega)
set_option maxRecDepth 100000 in
set_option maxHeartbeats 4000000 in
theorem Qfn{g A H k1 k2 k3:Nat}{vs:List V4}{h st m pa:Rat}{ts:List FE}{y:Value}{w:World}(ht:TBlk 82 w g ts)(hs:Sto A H vs h ts vs.length)(hn:vs.length≤10)(hl:LineV st m pa k1 k2 k3 y w)(hk:k1+k2+k3+54*A+36*H<50000000000):
 Calls Tryz.prog 37 #[.slice (some ⟨g,0,none⟩) vs.length vs.length,y] w fun e w'=>(∃b,e=.returned (.bool b)∧(b=true↔fitsTo vs (lnV st m pa vs h) vs.length))∧Below w.heap.size w w':=by
 obtain⟨x1,x2,x3,rfl⟩:=hl.parts;have HT:=Hi ht;have HS:=Hi hs;have HL:=Hi hl;clear ht hs hl;obtain⟨n,hnn⟩:∃n,vs.length=n:=⟨_,rfl⟩;rw[hnn];have HNN:=Hi hnn;rw[hnn] at hn;clear hnn;go_enter Tryz.func37,Tryz.ntmps37;go_wp2_with fail;go_loopw [10] (fun iv wr=>∃k:Nat,k≤n∧iv=.int .i64 k∧fitsTo vs (lnV st m pa vs h) k∧Below w.heap.size w wr) (fun iv _=>n - (intOf iv).toNat)
 case atStart=>exact⟨0,Nat.zero_le _,rfl,fun i hi=>by omega,Below.refl _ _⟩
 case round=>
  obtain⟨k,hk',rfl,hf,hb⟩:=hrel;have HF:=Hi hf;have HB:=Hi hb;clear hf hb;by_cases hkn:k<n
  ·
   obtain⟨v,hv⟩:∃v,vs[k]?=some v:=⟨vs[k]'(by have:=HNN.out;omega),List.getElem?_eq_getElem _⟩;have htw:=HT.out.below HB.out;obtain⟨a,l,u,s,⟨i1,i2,i3,i4⟩,h1,h2,h3,h4⟩:=HS.out.get htw (by have:=HNN.out;omega) (by have:=HNN.out;omega) hv;obtain⟨t0,t1,t2,t3,t4,t5,t6,t7,t8,t9,t10,t11⟩:=htw.stone i1 i2 i3 i4;obtain⟨o1,o2,o3⟩:=h1.1.one;obtain⟨o4,o5,o6⟩:=h2.1.one;obtain⟨o7,o8,o9⟩:=h3.1.one;obtain⟨o10,o11,o12⟩:=h4.1.one;have s1:=Qab Tryz.prog o1;have s2:=Qab Tryz.prog o2;have s3:=Qab Tryz.prog o3;have s4:=Qab Tryz.prog o4;have s5:=Qab Tryz.prog o5;have s6:=Qab Tryz.prog o6;have s7:=Qab Tryz.prog o7;have s8:=Qab Tryz.prog o8;have s9:=Qab Tryz.prog o9;have s10:=Qab Tryz.prog o10;have s11:=Qab Tryz.prog o11;have s12:=Qab Tryz.prog o12;clear o1 o2 o3 o4 o5 o6 o7 o8 o9 o10 o11 o12;obtain⟨b0,hb0⟩:∃b0,wr.heap.size=b0:=⟨_,rfl⟩
   obtain⟨V,hV⟩:∃V,wr.alloc (.cells #[a.x,a.y,a.z,l.x,l.y,l.z,u.x,u.y,u.z,s.x,s.y,s.z] 82)=V:=⟨_,rfl⟩;have hBV:Below wr.heap.size wr V:=by rw[←hV];exact(Below.refl _ _).alloc (Nat.le_refl _) _
   have HSB:Hid (SB V b0 82 #[a.x,a.y,a.z,l.x,l.y,l.z,u.x,u.y,u.z,s.x,s.y,s.z]):=Hi (by rw[←hV,←hb0];exact SB.new wr _ _);have HBV:=Hi (HB.out.trans (hBV.mono HB.out.size));have HSV:=Hi (SV4.of (h1.below hBV) (h2.below hBV) (h3.below hBV) (h4.below hBV));have HLV:=Hi (LineV.stays _ _ _ _ _ _ _ _ _ HBV.out HL.out);have FL:=Hi (h2.below hBV);have FU:=Hi (h3.below hBV);have HLN:Hid (st+m*(v.1 - pa)+shp (atF vs) (wtF vs) h k=lnV st m pa vs h k):=Hi (Qdy hv).symm;have HSU:=Hi (Qjt (y:=lnV st m pa vs h) hv);have HVE:=Hi hV;have HBE:=Hi hb0;have q1:((k:Int)<(n:Int)):=by omega
   clear htw h1 h2 h3 h4 hV hb0 hBV i1 i2 i3 i4 hv;go_wp2_with fail;rw[HVE.out];simp only[HBE.out];clear s1 s2 s3 s4 s5 s6 s7 s8 s9 s10 s11 s12;clear t0 t1 t2 t3 t4 t5 t6 t7 t8 t9 t10 t11;refine Makes.use (LineV.call HLV.out HSV.out (by omega)) ?_;intro vy w2 hb2 hy;rw[HLN.out] at hy;obtain⟨KL,hKL⟩:∃KL,k1+(k2+(A+k3+1))+1+(52*A+36*H+61)+1=KL:=⟨_,rfl⟩;rw[hKL] at hy;have hKA:KL+A<60000000000:=by omega
   obtain⟨m1,m2,m3,rfl⟩:=hy.parts;obtain⟨b1,hb1⟩:∃b1,w2.heap.size=b1:=⟨_,rfl⟩;obtain⟨V2,hV2⟩:∃V2,w2.alloc (.cells #[m1,m2,m3] 63)=V2:=⟨_,rfl⟩;have hBV2:Below w2.heap.size w2 V2:=by rw[←hV2];exact(Below.refl _ _).alloc (Nat.le_refl _) _
   have HB2:Hid (Below V.heap.size V V2):=Hi (hb2.trans (hBV2.mono hb2.size));have HSY:Hid (SB V2 b1 63 #[m1,m2,m3]):=Hi (by rw[←hV2,←hb1];exact SB.new w2 _ _);have HY:=Hi (hy.below hBV2);have HSS:=Hi (HSB.out.below HB2.out HSB.out.lt);obtain⟨o1,o2,o3⟩:=hy.1.one;have s1:=Qab Tryz.prog o1;have s2:=Qab Tryz.prog o2;have s3:=Qab Tryz.prog o3;clear o1 o2 o3;have c3:=HSS.out.cell 3;have c4:=HSS.out.cell 4;have c5:=HSS.out.cell 5;simp only[List.getElem?_toArray,List.getElem?_cons_zero,List.getElem?_cons_succ] at c3 c4 c5;rw[←hV2] at c3 c4 c5;have HV2:=Hi hV2;have HB1:=Hi hb1;have HBW2:=Hi (HBV.out.trans (HB2.out.mono HBV.out.size));clear hKL hb1 hV2 hBV2 hy hb2;go_wp2_with fail;rw[HV2.out];simp only[HB1.out];refine Makes.use (FF.compare HY.out (FL.out.below HB2.out) (by omega)) ?_;rintro _ w3 hb3 rfl;have HB3:=Hi hb3;have HBW3:=Hi (HBW2.out.trans (hb3.mono HBW2.out.size))
   have hs3:=HSS.out.below hb3 HSS.out.lt;have hy3:=HSY.out.below hb3 HSY.out.lt;have d0:=hy3.cell 0;have d1:=hy3.cell 1;have d2:=hy3.cell 2;have d6:=hs3.cell 6;have d7:=hs3.cell 7;have d8:=hs3.cell 8;simp only[List.getElem?_toArray,List.getElem?_cons_zero,List.getElem?_cons_succ] at d0 d1 d2 d6 d7 d8;obtain⟨C,hC⟩:∃C,cmpQ (lnV st m pa vs h k) v.2.2.1=C:=⟨_,rfl⟩;have HCE:=Hi (Qbv (lnV st m pa vs h k) v.2.2.1);rw[hC] at HCE ⊢;clear hC hb3 hs3 hy3 c3 c4 c5 s1 s2 s3;by_cases h0:C<0
   ·
    have e0:decide (C<0)=true:=decide_eq_true h0;have HNO:Hid (¬fitsTo vs (lnV st m pa vs h) n):=Hi (fun hc=>by
     have h2:=(HSU.out.1 (Qfm (by omega) hc)).2.1;have h3:=HCE.out.1 h0
     exact absurd h3 (Rat.not_lt.2 h2))
    clear h0;go_wp2;go_ret;exact⟨⟨false,rfl,by simp[HNO.out]⟩,HBW3.out⟩
   ·
    have e0:decide (C<0)=false:=decide_eq_false h0;have HGE:Hid (v.2.2.1≤lnV st m pa vs h k):=Hi (Rat.not_lt.1 (fun hc=>h0 (HCE.out.2 hc)));clear h0;go_wp2_with fail;refine Makes.use (FF.compare (HY.out.below HB3.out) ((FU.out.below HB2.out).below HB3.out) (by omega)) ?_;rintro _ w4 hb4 rfl;have HBW4:=Hi (HBW3.out.trans (hb4.mono HBW3.out.size));obtain⟨D,hD⟩:∃D,cmpQ (lnV st m pa vs h k) v.2.2.2=D:=⟨_,rfl⟩;have HDE:=Hi (Qbb (lnV st m pa vs h k) v.2.2.2);rw[hD] at HDE ⊢;clear hD hb4 d0 d1 d2 d6 d7 d8;by_cases h0:0<D
    ·
     have e1:decide (0<D)=true:=decide_eq_true h0;have HNO:Hid (¬fitsTo vs (lnV st m pa vs h) n):=Hi (fun hc=>by
      have h2:=(HSU.out.1 (Qfm (by omega) hc)).2.2;have h3:=HDE.out.1 h0
      exact absurd h3 (Rat.not_lt.2 h2))
     clear h0;go_wp2;go_ret;exact⟨⟨false,rfl,by simp[HNO.out]⟩,HBW4.out⟩
    ·
     have e1:decide (0<D)=false:=decide_eq_false h0;have HLE:Hid (lnV st m pa vs h k≤v.2.2.2):=Hi (Rat.not_lt.1 (fun hc=>h0 (HDE.out.2 hc)));clear h0;go_wp2;go_roundw
     case rel=>exact⟨k+1,by omega,by go_num,HSU.out.2 ⟨HF.out,HGE.out,HLE.out⟩,HBW4.out⟩
     case measure=>simp[intOf];omega
  ·
   obtain rfl:k=n:=by omega
   go_wp2;go_ret;exact⟨⟨true,rfl,by simp[HF.out]⟩,HB.out⟩
def tc(s:ByteArray):List Value:=[.string s]
theorem ARow.text{w:World}{a:Option Addr}{cap:Nat}{es:List ByteArray}(h:ARow tc w a cap es){i:Nat}{e:ByteArray}(hi:es[i]?=some e):∃b off,a=some ⟨b,off,none⟩∧b<w.heap.size∧w.cell? ⟨b,off+i,none⟩=some (.string e):=by
 obtain⟨b,off,h1,h2,h3⟩:=h.at (sz:=1) (fun _=>rfl) (by decide) hi;have:=h3 0 _ rfl;rw[Nat.mul_one,Nat.add_zero] at this;exact⟨b,off,h1,h2,this⟩
structure HeightsV (ls:List ByteArray) (y:Nat→Rat) (Kh:Nat):Prop where
 each:∀i s,ls[i]?=some s→QOf s.data.toList (y i)∧Fits (y i) Kh∧s.size≤1073741824
 pos:0<Kh
def goesTo(y z:Nat→Rat)(k:Nat):Prop:=∀i,i<k→y i=z i
set_option maxRecDepth 100000 in
set_option maxHeartbeats 4000000 in
theorem Qju{g A H k1 k2 k3 Kh cap:Nat}{vs:List V4}{h st m pa:Rat}{ts:List FE}{y:Value}{a:Option Addr}{ls:List ByteArray}{z:Nat→Rat}{w:World}(hg:Glob w)(ht:TBlk 82 w g ts)(hs:Sto A H vs h ts vs.length)(hn:vs.length≤10)(hl:LineV st m pa k1 k2 k3 y w)(hr:ARow tc w a cap ls)(hll:ls.length=vs.length)(hz:HeightsV ls z Kh)(hk:k1+k2+k3+54*A+36*H<50000000000):
 Calls Tryz.prog 40 #[.slice (some ⟨g,0,none⟩) vs.length vs.length,y,.slice a vs.length cap] w fun e w'=>(∃b,e=.returned (.bool b)∧(b=true↔goesTo (lnV st m pa vs h) z vs.length))∧Below w.heap.size w w':=by
 obtain⟨x1,x2,x3,rfl⟩:=hl.parts;have HG:=Hi hg;have HT:=Hi ht;have HS:=Hi hs;have HL:=Hi hl;have HR:=Hi hr;have HZ:=Hi hz;have hpos:=hz.pos;clear ht hs hl hg hr hz;obtain⟨n,hnn⟩:∃n,vs.length=n:=⟨_,rfl⟩;rw[hnn] at hll hn ⊢;have HNN:=Hi hnn;have HLL:=Hi hll;clear hnn hll;go_enter Tryz.func40,Tryz.ntmps40;go_wp2_with fail;go_loopw [11] (fun iv wr=>∃k:Nat,k≤n∧iv=.int .i64 k∧goesTo (lnV st m pa vs h) z k∧Below w.heap.size w wr) (fun iv _=>n - (intOf iv).toNat)
 case atStart=>exact⟨0,Nat.zero_le _,rfl,fun i hi=>by omega,Below.refl _ _⟩
 case round=>
  obtain⟨k,hk',rfl,hf,hb⟩:=hrel;have HF:=Hi hf;have HB:=Hi hb;clear hf hb;by_cases hkn:k<n
  ·
   obtain⟨v,hv⟩:∃v,vs[k]?=some v:=⟨vs[k]'(by have:=HNN.out;omega),List.getElem?_eq_getElem _⟩;obtain⟨tx,htx⟩:∃tx,ls[k]?=some tx:=⟨ls[k]'(by have:=HLL.out;omega),List.getElem?_eq_getElem _⟩;have htw:=HT.out.below HB.out;obtain⟨pa',l,u,s,⟨i1,i2,i3,i4⟩,h1,h2,h3,h4⟩:=HS.out.get htw (by have:=HNN.out;omega) (by have:=HNN.out;omega) hv;obtain⟨t0,t1,t2,t3,t4,t5,t6,t7,t8,t9,t10,t11⟩:=htw.stone i1 i2 i3 i4;obtain⟨hb1,ho1,rfl,hlt1,hct⟩:=(HR.out.below HB.out).text htx;obtain⟨o1,o2,o3⟩:=h1.1.one;obtain⟨o4,o5,o6⟩:=h2.1.one;obtain⟨o7,o8,o9⟩:=h3.1.one;obtain⟨o10,o11,o12⟩:=h4.1.one;have s1:=Qab Tryz.prog o1;have s2:=Qab Tryz.prog o2;have s3:=Qab Tryz.prog o3;have s4:=Qab Tryz.prog o4;have s5:=Qab Tryz.prog o5;have s6:=Qab Tryz.prog o6;have s7:=Qab Tryz.prog o7;have s8:=Qab Tryz.prog o8;have s9:=Qab Tryz.prog o9;have s10:=Qab Tryz.prog o10;have s11:=Qab Tryz.prog o11;have s12:=Qab Tryz.prog o12
   clear o1 o2 o3 o4 o5 o6 o7 o8 o9 o10 o11 o12;obtain⟨b0,hb0⟩:∃b0,wr.heap.size=b0:=⟨_,rfl⟩;obtain⟨V,hV⟩:∃V,wr.alloc (.cells #[pa'.x,pa'.y,pa'.z,l.x,l.y,l.z,u.x,u.y,u.z,s.x,s.y,s.z] 82)=V:=⟨_,rfl⟩;have hBV:Below wr.heap.size wr V:=by rw[←hV];exact(Below.refl _ _).alloc (Nat.le_refl _) _
   obtain⟨Y,hY⟩:∃Y,V.drew=Y:=⟨_,rfl⟩;have hBY:Below wr.heap.size wr Y:=by rw[←hY];exact hBV.drew
   have HSB:Hid (SB Y b0 82 #[pa'.x,pa'.y,pa'.z,l.x,l.y,l.z,u.x,u.y,u.z,s.x,s.y,s.z]):=Hi (by rw[←hY,←hV,←hb0];exact SB.new wr _ _);have HBV:=Hi (HB.out.trans (hBY.mono HB.out.size));have HSV:=Hi (SV4.of (h1.below hBY) (h2.below hBY) (h3.below hBY) (h4.below hBY));have HLV:=Hi (LineV.stays _ _ _ _ _ _ _ _ _ HBV.out HL.out);have HGY:=Hi (HG.out.below HBV.out);have HCT:Hid (Y.cell? ⟨hb1,ho1+k,none⟩=some (.string tx)):=Hi ((hBY.cell (p:=⟨hb1,ho1+k,none⟩) hlt1).trans hct);have HLT:Hid (hb1<Y.heap.size):=Hi (Nat.lt_of_lt_of_le hlt1 hBY.size);have HZK:=Hi (HZ.out.each k tx htx);have HLN:Hid (st+m*(v.1 - pa)+shp (atF vs) (wtF vs) h k=lnV st m pa vs h k):=Hi (Qdy hv).symm;have HVE:=Hi hV;have HYE:=Hi hY;have HBE:=Hi hb0;have q1:((k:Int)<(n:Int)):=by omega
   clear htw h1 h2 h3 h4 hV hY hb0 hBV hBY i1 i2 i3 i4 hv htx hct hlt1;go_wp2_with fail;rw[HVE.out];simp only[HBE.out];clear s1 s2 s3 s4 s5 s6 s7 s8 s9 s10 s11 s12;clear t0 t1 t2 t3 t4 t5 t6 t7 t8 t9 t10 t11;obtain⟨KL,hKL⟩:∃KL,k1+(k2+(A+k3+1))+1+(52*A+36*H+61)+1=KL:=⟨_,rfl⟩;have HKL:=Hi hKL;have HCL:Hid (∀c,Below Y.heap.size Y c→Calls Tryz.prog 84 #[.agg #[pa'.x,pa'.y,pa'.z,l.x,l.y,l.z,u.x,u.y,u.z,s.x,s.y,s.z],x1,x2,x3] c (Makes c (FF (lnV st m pa vs h k) KL))):=Hi (fun c hc=>by
    rw[←hKL,←HLN.out]
    exact LineV.call (LineV.stays _ _ _ _ _ _ _ _ _ hc HLV.out) (SV4.stays _ _ _ _ _ _ _ _ _ hc HSV.out) (by omega))
   clear hKL;refine RegG.begin 10 (fun j=>some (16+j)) (by kernel_rfl) (by kernel_rfl) (by kernel_rfl) rfl ?_;rw[HYE.out];refine RegG.is (c:=?_) [] (by simp only[List.nil_append,List.cons_append,List.length_append,List.length_cons,List.length_nil,Nat.reduceAdd];exact rfl) (by simp only[List.getElem?_toArray,List.getElem?_cons_zero,List.getElem?_cons_succ];exact rfl) (by kernel_rfl) (fun w hb=>?_) ?_;rotate_left
   ·
    simp only[Given,List.nil_append,List.cons_append,List.getD_cons_zero,List.getD_cons_succ,Qaa,Act.put,List.setIfInBounds_toArray,List.set_cons_zero,List.set_cons_succ,Nat.reduceAdd,Nat.reduceBEq,cond_true,cond_false];intro K hK;skip;go_simp;exact hK
   refine RegG.is (c:=?_) [] (by simp only[List.nil_append,List.cons_append,List.length_append,List.length_cons,List.length_nil,Nat.reduceAdd];exact rfl) (by simp only[List.getElem?_toArray,List.getElem?_cons_zero,List.getElem?_cons_succ];exact rfl) (by kernel_rfl) (fun w hb=>?_) ?_;rotate_left
   ·
    simp only[Given,List.nil_append,List.cons_append,List.getD_cons_zero,List.getD_cons_succ,Qaa,Act.put,List.setIfInBounds_toArray,List.set_cons_zero,List.set_cons_succ,Nat.reduceAdd,Nat.reduceBEq,cond_true,cond_false];intro K hK;have hs12:=HSB.out.below hb HSB.out.lt;have g0:=hs12.cell 0;have g1:=hs12.cell 1;have g2:=hs12.cell 2;have g3:=hs12.cell 3;have g4:=hs12.cell 4;have g5:=hs12.cell 5;have g6:=hs12.cell 6;have g7:=hs12.cell 7;have g8:=hs12.cell 8;have g9:=hs12.cell 9;have g10:=hs12.cell 10;have g11:=hs12.cell 11;simp only[List.getElem?_toArray,List.getElem?_cons_zero,List.getElem?_cons_succ] at g0 g1 g2 g3 g4 g5 g6 g7 g8 g9 g10 g11;clear hs12;go_simp;exact hK
   refine RegG.step (φ:=FF (lnV st m pa vs h k) KL) [0,1] (by simp only[List.nil_append,List.cons_append,List.length_append,List.length_cons,List.length_nil,Nat.reduceAdd];exact rfl) (by simp only[List.getElem?_toArray,List.getElem?_cons_zero,List.getElem?_cons_succ];exact rfl) (by kernel_rfl) (FF.stays _ _) (fun w hb=>?_) ?_
   ·
    simp only[Given,List.nil_append,List.cons_append,List.getD_cons_zero,List.getD_cons_succ,Qaa,Act.put,List.setIfInBounds_toArray,List.set_cons_zero,List.set_cons_succ,Nat.reduceAdd,Nat.reduceBEq,cond_true,cond_false];skip;intro K hK;go_simp;exact Makes.use (HCL.out w hb) hK
   refine RegG.is (c:=?_) [] (by simp only[List.nil_append,List.cons_append,List.length_append,List.length_cons,List.length_nil,Nat.reduceAdd];exact rfl) (by simp only[List.getElem?_toArray,List.getElem?_cons_zero,List.getElem?_cons_succ];exact rfl) (by kernel_rfl) (fun w hb=>?_) ?_;rotate_left
   ·
    simp only[Given,List.nil_append,List.cons_append,List.getD_cons_zero,List.getD_cons_succ,Qaa,Act.put,List.setIfInBounds_toArray,List.set_cons_zero,List.set_cons_succ,Nat.reduceAdd,Nat.reduceBEq,cond_true,cond_false];intro K hK;skip;go_simp;exact hK
   refine RegG.is (c:=?_) [] (by simp only[List.nil_append,List.cons_append,List.length_append,List.length_cons,List.length_nil,Nat.reduceAdd];exact rfl) (by simp only[List.getElem?_toArray,List.getElem?_cons_zero,List.getElem?_cons_succ];exact rfl) (by kernel_rfl) (fun w hb=>?_) ?_;rotate_left
   ·
    simp only[Given,List.nil_append,List.cons_append,List.getD_cons_zero,List.getD_cons_succ,Qaa,Act.put,List.setIfInBounds_toArray,List.set_cons_zero,List.set_cons_succ,Nat.reduceAdd,Nat.reduceBEq,cond_true,cond_false];intro K hK;skip;go_simp;exact hK
   refine RegG.is (c:=?_) [3,4] (by simp only[List.nil_append,List.cons_append,List.length_append,List.length_cons,List.length_nil,Nat.reduceAdd];exact rfl) (by simp only[List.getElem?_toArray,List.getElem?_cons_zero,List.getElem?_cons_succ];exact rfl) (by kernel_rfl) (fun w hb=>?_) ?_;rotate_left
   ·
    simp only[Given,List.nil_append,List.cons_append,List.getD_cons_zero,List.getD_cons_succ,Qaa,Act.put,List.setIfInBounds_toArray,List.set_cons_zero,List.set_cons_succ,Nat.reduceAdd,Nat.reduceBEq,cond_true,cond_false];intro K hK;skip;go_simp;exact hK
   refine RegG.is (c:=?_) [5] (by simp only[List.nil_append,List.cons_append,List.length_append,List.length_cons,List.length_nil,Nat.reduceAdd];exact rfl) (by simp only[List.getElem?_toArray,List.getElem?_cons_zero,List.getElem?_cons_succ];exact rfl) (by kernel_rfl) (fun w hb=>?_) ?_;rotate_left
   ·
    simp only[Given,List.nil_append,List.cons_append,List.getD_cons_zero,List.getD_cons_succ,Qaa,Act.put,List.setIfInBounds_toArray,List.set_cons_zero,List.set_cons_succ,Nat.reduceAdd,Nat.reduceBEq,cond_true,cond_false];intro K hK;have w0:=(hb.cell (p:=⟨hb1,ho1+k,none⟩) HLT.out).trans HCT.out;go_simp;exact hK
   refine RegG.step (φ:=FF (z k) Kh) [6] (by simp only[List.nil_append,List.cons_append,List.length_append,List.length_cons,List.length_nil,Nat.reduceAdd];exact rfl) (by simp only[List.getElem?_toArray,List.getElem?_cons_zero,List.getElem?_cons_succ];exact rfl) (by kernel_rfl) (FF.stays _ _) (fun w hb=>?_) ?_
   ·
    simp only[Given,List.nil_append,List.cons_append,List.getD_cons_zero,List.getD_cons_succ,Qaa,Act.put,List.setIfInBounds_toArray,List.set_cons_zero,List.set_cons_succ,Nat.reduceAdd,Nat.reduceBEq,cond_true,cond_false];skip;intro K hK;go_simp;exact Makes.use (FF.ofFits (HGY.out.below hb) HZK.out.1 HZK.out.2.2 HZK.out.2.1 hpos) hK
   refine RegG.step (φ:=Is (.bool (decide (lnV st m pa vs h k=z k)))) [2,7] (by simp only[List.nil_append,List.cons_append,List.length_append,List.length_cons,List.length_nil,Nat.reduceAdd];exact rfl) (by simp only[List.getElem?_toArray,List.getElem?_cons_zero,List.getElem?_cons_succ];exact rfl) (by kernel_rfl) (Is.stays _) (fun w hb=>?_) ?_
   ·
    simp only[Given,List.nil_append,List.cons_append,List.getD_cons_zero,List.getD_cons_succ,Qaa,Act.put,List.setIfInBounds_toArray,List.set_cons_zero,List.set_cons_succ,Nat.reduceAdd,Nat.reduceBEq,cond_true,cond_false];intro v2 h2 v7 h7;intro K hK;go_simp;exact Makes.use (FF.equal h2 h7) hK
   refine RegG.is (c:=?_) [8] (by simp only[List.nil_append,List.cons_append,List.length_append,List.length_cons,List.length_nil,Nat.reduceAdd];exact rfl) (by simp only[List.getElem?_toArray,List.getElem?_cons_zero,List.getElem?_cons_succ];exact rfl) (by kernel_rfl) (fun w hb=>?_) ?_;rotate_left
   ·
    simp only[Given,List.nil_append,List.cons_append,List.getD_cons_zero,List.getD_cons_succ,Qaa,Act.put,List.setIfInBounds_toArray,List.set_cons_zero,List.set_cons_succ,Nat.reduceAdd,Nat.reduceBEq,cond_true,cond_false];intro K hK;skip;go_simp;exact hK
   refine RegG.fin (by rfl) (fun u9 hb=>?_);simp only[FinG,List.nil_append,List.cons_append,Qaa,Act.put,List.setIfInBounds_toArray,List.set_cons_zero,List.set_cons_succ,Nat.reduceAdd,Nat.reduceBEq,cond_true,cond_false];intro v2 _ v7 _;have HB9:=Hi (HBV.out.trans (hb.mono HBV.out.size));clear hb;by_cases he:lnV st m pa vs h k=z k
   ·
    have HGO:Hid (goesTo (lnV st m pa vs h) z (k+1)):=Hi (fun i hi=>by
     rcases Nat.lt_or_ge i k with h1|h1
     · exact HF.out i h1
     · rw[show i=k by omega];exact he)
    rw[decide_eq_true he];clear he;go_wp2;go_roundw
    case rel=>exact⟨k+1,by omega,by go_num,HGO.out,HB9.out⟩
    case measure=>simp[intOf];omega
   ·
    have HNO:Hid (¬goesTo (lnV st m pa vs h) z n):=Hi (fun hc=>he (hc k hkn));rw[decide_eq_false he];clear he;go_wp2;go_ret;exact⟨⟨false,rfl,by simp[HNO.out]⟩,HB9.out⟩
  ·
   obtain rfl:k=n:=by omega
   go_wp2;go_ret;exact⟨⟨true,rfl,by simp[HF.out]⟩,HB.out⟩
set_option maxRecDepth 100000 in
set_option maxHeartbeats 4000000 in
theorem Qjv{g A H k1 k2 k3:Nat}{vs:List V4}{h st m pa:Rat}{ts:List FE}{y:Value}{w:World}(hg:Glob w)(ht:TBlk 82 w g ts)(hs:Sto A H vs h ts vs.length)(hn:vs.length≤10)(hl:LineV st m pa k1 k2 k3 y w)(hk:k1+k2+k3+54*A+36*H<50000000000):
 Calls Tryz.prog 38 #[.slice (some ⟨g,0,none⟩) vs.length vs.length,y] w fun e w'=>(∃(g':Nat) (ls:List ByteArray),e=.returned (.slice (some ⟨g',0,none⟩) vs.length vs.length)∧w.heap.size≤g'∧ls.length=vs.length∧SB w' g' 23 (textsV ls).toArray∧∀(i:Nat) (s:ByteArray),ls[i]?=some s→QText s.data.toList (lnV st m pa vs h i))∧Below w.heap.size w w':=by
 obtain⟨x1,x2,x3,rfl⟩:=hl.parts;have HG:=Hi hg;have HT:=Hi ht;have HS:=Hi hs;have HL:=Hi hl;clear ht hs hl hg;obtain⟨n,hnn⟩:∃n,vs.length=n:=⟨_,rfl⟩;rw[hnn] at hn ⊢;have HNN:=Hi hnn;have hmk:=fun w=>Qrx n (by omega) w
 obtain⟨MC,hMC⟩:∃MC,(textsV (List.replicate n ⟨#[]⟩)).toArray=MC:=⟨_,rfl⟩;rw[hMC] at hmk;have HMC:=Hi hMC;clear hnn hMC;go_enter Tryz.func38,Tryz.ntmps38;go_wp2_with fail;clear hmk;obtain⟨g',hg'⟩:∃g',w.heap.size=g':=⟨_,rfl⟩;obtain⟨V0,hV0⟩:∃V0,w.alloc (.cells MC 23)=V0:=⟨_,rfl⟩;have HB0:Hid (Below w.heap.size w V0):=Hi (by rw[←hV0];exact(Below.refl _ _).alloc (Nat.le_refl _) _);have HQ0:Hid (SB V0 g' 23 (textsV (List.replicate n ⟨#[]⟩)).toArray):=Hi (by rw[←hV0,←hg',HMC.out];exact SB.new w _ _);rw[hV0];simp only[hg'];have hgg:=Nat.le_of_eq hg';clear hV0 hg';go_loopw [13] (fun iv wr=>∃(k:Nat) (ls:List ByteArray),k≤n∧iv=.int .i64 k∧ls.length=n∧SB wr g' 23 (textsV ls).toArray∧(∀(i:Nat) (s:ByteArray),i<k→ls[i]?=some s→QText s.data.toList (lnV st m pa vs h i))∧Below w.heap.size w wr) (fun iv _=>n - (intOf iv).toNat)
 case atStart=>exact⟨0,_,Nat.zero_le _,rfl,by simp,HQ0.out,fun i s hi=>by omega,HB0.out⟩
 case round=>
  obtain⟨k,ls,hk',rfl,hll,hsb,hall,hb⟩:=hrel;have HB:=Hi hb;have HLS:=Hi hsb;have HALL:=Hi hall;have HLL:=Hi hll;have hgl:=hsb.lt;clear hb hsb hall hll;by_cases hkn:k<n
  ·
   obtain⟨v,hv⟩:∃v,vs[k]?=some v:=⟨vs[k]'(by have:=HNN.out;omega),List.getElem?_eq_getElem _⟩;have htw:=HT.out.below HB.out;obtain⟨pa',l,u,s,⟨i1,i2,i3,i4⟩,h1,h2,h3,h4⟩:=HS.out.get htw (by have:=HNN.out;omega) (by have:=HNN.out;omega) hv;obtain⟨t0,t1,t2,t3,t4,t5,t6,t7,t8,t9,t10,t11⟩:=htw.stone i1 i2 i3 i4;obtain⟨o1,o2,o3⟩:=h1.1.one;obtain⟨o4,o5,o6⟩:=h2.1.one;obtain⟨o7,o8,o9⟩:=h3.1.one;obtain⟨o10,o11,o12⟩:=h4.1.one;have s1:=Qab Tryz.prog o1;have s2:=Qab Tryz.prog o2;have s3:=Qab Tryz.prog o3;have s4:=Qab Tryz.prog o4;have s5:=Qab Tryz.prog o5;have s6:=Qab Tryz.prog o6;have s7:=Qab Tryz.prog o7;have s8:=Qab Tryz.prog o8;have s9:=Qab Tryz.prog o9;have s10:=Qab Tryz.prog o10;have s11:=Qab Tryz.prog o11;have s12:=Qab Tryz.prog o12;clear o1 o2 o3 o4 o5 o6 o7 o8 o9 o10 o11 o12;obtain⟨b0,hb0⟩:∃b0,wr.heap.size=b0:=⟨_,rfl⟩
   obtain⟨V,hV⟩:∃V,wr.alloc (.cells #[pa'.x,pa'.y,pa'.z,l.x,l.y,l.z,u.x,u.y,u.z,s.x,s.y,s.z] 82)=V:=⟨_,rfl⟩;have hBV:Below wr.heap.size wr V:=by rw[←hV];exact(Below.refl _ _).alloc (Nat.le_refl _) _
   have HBV:=Hi (HB.out.trans (hBV.mono HB.out.size));have HBVr:=Hi hBV;have HSV:=Hi (SV4.of (h1.below hBV) (h2.below hBV) (h3.below hBV) (h4.below hBV));have HLV:=Hi (LineV.stays _ _ _ _ _ _ _ _ _ HBV.out HL.out);have HLN:Hid (st+m*(v.1 - pa)+shp (atF vs) (wtF vs) h k=lnV st m pa vs h k):=Hi (Qdy hv).symm;have HVE:=Hi hV;have HBE:=Hi hb0;have q1:((k:Int)<(n:Int)):=by omega
   clear htw h1 h2 h3 h4 hV hb0 hBV i1 i2 i3 i4 hv;go_wp2_with fail;rw[HVE.out];simp only[HBE.out];clear s1 s2 s3 s4 s5 s6 s7 s8 s9 s10 s11 s12;clear t0 t1 t2 t3 t4 t5 t6 t7 t8 t9 t10 t11;refine Makes.use (LineV.call HLV.out HSV.out (by omega)) ?_;intro vy w2 hb2 hy;rw[HLN.out] at hy;have HY:=Hi hy;have HB2:=Hi hb2;have HBW2:=Hi (HBV.out.trans (hb2.mono HBV.out.size));clear hy hb2;go_wp2_with fail;refine Makes.use (FF.text (HG.out.below HBW2.out) HY.out (by omega)) ?_;rintro _ w3 hb3 ⟨tx,rfl,hqt⟩;have HBW3:=Hi (HBW2.out.trans (hb3.mono HBW2.out.size));have hls3:=(HLS.out.below (HBVr.out.trans ((HB2.out.trans (hb3.mono HB2.out.size)).mono HBVr.out.size)) HLS.out.lt);have f0:=hls3.free k;obtain⟨s0,hs0⟩:∃s0,ls[k]?=some s0:=⟨ls[k]'(by have:=HLL.out;omega),List.getElem?_eq_getElem (by have:=HLL.out;omega)⟩;have c0:w3.cell? ⟨g',k,none⟩=some (.string s0):=by rw[hls3.cell];simp[textsV,hs0]
   have HLS3:=Hi hls3;have HQT:=Hi hqt;have HS0:=Hi hs0;clear hls3 hqt hs0 hb3;go_wp2_with fail;go_roundw
   case rel=>
    refine⟨k+1,ls.set k tx,by omega,by go_num,by rw[List.length_set];exact HLL.out,?_,fun i s' hi hs'=>?_,HBW3.out.setCell (p:=⟨g',k,none⟩) hgg _⟩
    ·
     rw[Qry];have:=HLS3.out.set k (.string tx)
     simpa using this
    ·
     rcases Nat.lt_or_ge i k with h1|h1
     · rw[List.getElem?_set_ne (by omega)] at hs'
       exact HALL.out i s' h1 hs'
     ·
      obtain rfl:i=k:=by omega
      rw[List.getElem?_set_self (by have:=HLL.out;omega)] at hs';obtain rfl:=Option.some.inj hs';exact HQT.out
   case measure=>simp[intOf];omega
  ·
   obtain rfl:k=n:=by omega
   go_wp2;go_ret;exact⟨⟨g',ls,rfl,hgg,HLL.out,HLS.out,fun i s hi=>HALL.out i s (by have:=(List.getElem?_eq_some_iff.1 hi).1;have:=HLL.out;omega) hi⟩,HB.out⟩
end Go.Proofs.YtldjeecnapgakaaGreatDoor
namespace Go.Proofs.YtldjeecnapgakaaGreatDoor
open Go Go.RowKit
set_option linter.unusedVariables false
def NoC(w:World)(l:Nat):Prop:=∀o,w.heap[l]?=some o→o.isCells=false
theorem NoC.cell{w:World}{l i:Nat}{v:Value}(h:NoC w l)(hc:w.cell? ⟨l,i,none⟩=some v):False:=by
 obtain⟨o,ho,hi⟩:=cells_of_cell hc;rw[h o ho] at hi;cases hi
theorem Only.put(w:World)(l:Nat)(o:Obj):Only l w (w.putObj l o):=⟨rfl,rfl,rfl,by simp,fun k _ hk=>World.putObj_heap_other hk⟩
section
variable {w w':World} {g:Nat}
theorem Row.onlyN{k:IntKind}{a:Option Addr}{cap:Nat}{l:List Nat}(h:Row k w a cap l)(ho:Only g w w')(hn:NoC w g):Row k w' a cap l:=by
 refine⟨h.fit,?_,fun i hi=>?_⟩
 ·
  rcases h.shape with h1|⟨b,off,rfl,h2⟩
  · exact .inl h1
  · exact .inr ⟨b,off,rfl,by have:=ho.size;omega⟩
 ·
  obtain⟨b,off,h1,h2,h3⟩:=h.cell i hi;have hne:b≠g:=by rintro rfl;exact hn.cell h3
  exact⟨b,off,h1,by have:=ho.size;omega,(World.cell?_of_block (w:=w) (ho.block b h2 hne)).trans h3⟩
theorem NumV.onlyN{a:Option Addr}{n c x:Nat}(h:NumV w a n c x)(ho:Only g w w')(hn:NoC w g):NumV w' a n c x:=by
 obtain⟨l,hl,h⟩:=h;exact⟨l,hl,h.row.onlyN ho hn,h.num,h.short⟩
theorem FracV.onlyN{v:Value}{q:Rat}(h:FracV w v q)(ho:Only g w w')(hn:NoC w g):FracV w' v q:=by
 obtain⟨neg,a,n,c,b,m,d,e,h⟩:=h;refine⟨neg,a,n,c,b,m,d,e,h.neg,h.top.onlyN ho hn,?_⟩;rcases h.low with h1|⟨h1,h2⟩
 · exact .inl h1
 · exact .inr ⟨h1,h2.onlyN ho hn⟩
theorem TBlk.onlyN{T:TypeId}{b:Nat}{ts:List FE}(h:TBlk T w b ts)(ho:Only g w w')(hn:NoC w g):TBlk T w' b ts:=by
 refine⟨h.blk.only ho ?_,fun t ht=>⟨(h.ok t ht).1.onlyN ho hn,(h.ok t ht).2⟩⟩;rintro rfl;have:=hn _ h.blk;cases this
theorem LineV.onlyN{v:Value}{st m pa:Rat}{k1 k2 k3:Nat}(h:LineV st m pa k1 k2 k3 v w)(ho:Only g w w')(hn:NoC w g):LineV st m pa k1 k2 k3 v w':=by
 obtain⟨b1,b2,b3,e1,e2,a,l,u,s,e,h1,h2,h3,r⟩:=h;exact⟨b1,b2,b3,e1,e2,a,l,u,s,e,h1.onlyN ho hn,h2.onlyN ho hn,h3.onlyN ho hn,r⟩
end
def Over{α:Type}(F:Fence)(n:Nat)(P:Program)(g:Nat)(lb:Array Value)(enc:α→Value)(Ok:α→World→Prop)(S Sp:List α→Prop)(w:World):Prop:=
 ∀(l:Nat) (J Jx:List α→World→Prop) (W:World),Below w.heap.size w W→w.heap.size≤l→(∀pre U V,J pre U→Below U.heap.size U V→J pre V)→(∀pre U,J pre U→NoC U l∧l<U.heap.size∧Below w.heap.size w U)→
  (∀pre x U,J pre U→Ok x U→YieldAt F (n - 1) P l #[enc x] U fun e V=>(e=.returned (.bool true)∧J (pre++ [x]) V∧Only l U V)∨(e=.returned (.bool false)∧Jx (pre++ [x]) V))→
  J [] W→CallsIn F n P g (#[.func (.yield l) #[] #[]]++lb) W fun e V=>(∃v,e=.returned v)∧((∃xs,S xs∧J xs V)∨(∃pre,Sp pre∧Jx pre V))
def roundLeft{α:Type}(I Ix:List α→World→Prop)(xs:List α)(W:World):Exit→Act→World→Prop
 | .normal,_,V=>Below W.heap.size W V∧I xs V
 | .ret,_,V=>KeepsOthers W V∧Ix xs V
 |_,_,_=>False
section
variable {F:Fence} {n:Nat} {P:Program}
theorem Qqq{α:Type}{g:Operand}{ps:Array Tmp}{assign body:Code}{Q:Exit→Act→World→Prop}{a:Act}{w:World}
 (hro:F.round=none) (h1:1≤n) {gf:Nat} {lb:Array Value} (hg:a.eval g=.func (.func gf) #[] lb) (hF:F.fn gf) (eg:∀args w,(callFunc gf args).run P w=.ok (.enter gf args) w)
 {enc:α→Value} {Ok:α→World→Prop} {S Sp:List α→Prop} (hseq:Over F (n - 1) P gf lb enc Ok S Sp w) (hps:ps.size=1)
 (I Ix:List α→World→Prop) (hIw:∀pre U V,I pre U→Below U.heap.size U V→I pre V) (hIl:∀pre U l o,w.heap.size≤l→NoC U l→I pre U→I pre (U.putObj l o)) (hXl:∀pre U l o,w.heap.size≤l→NoC U l→Ix pre U→Ix pre (U.putObj l o)) (hOl:∀x U l o,w.heap.size≤l→NoC U l→Ok x U→Ok x (U.putObj l o))
 (hIb:∀pre U,I pre U→Below w.heap.size w U) (h0:I [] w) (a₁:α→Act)
 (hassign:∀(l:Nat) (x:α) (W:World) (K:Act→World→Prop),K (a₁ x) W→assign.wpIn (F.inRound l) (n - 1 - 1) P (Exit.then K (fun _ _ _=>False)) { tmps:=(ps.zip #[enc x]).foldl (fun t (p,v)=>t.setIfInBounds p v) a.tmps,defers:=[] } W)
 (hbody:∀(l:Nat) (pre:List α) (x:α) (W:World),w.heap.size≤l→I pre W→Ok x W→body.wpIn (F.inRound l) (n - 1 - 1) P (roundLeft I Ix (pre++ [x]) W) (a₁ x) W)
 (hdone:∀(D:Nat) (xs:List α) (W:World),w.heap.size≤D→S xs→I xs W→W.heap[D]?=some (.deferred (some []))→Q .normal { a with defers:={ target:=.collected D,args:=#[] } :: a.defers } W)
 (hstop:∀(D:Nat) (pre:List α) (W:World),w.heap.size≤D→Sp pre→Ix pre W→W.heap[D]?=some (.deferred (some []))→Code.ret.wpIn F n P Q { a with defers:={ target:=.collected D,args:=#[] } :: a.defers } W):
 (Code.rangeFunc g ps assign body).wpIn F n P Q a w:=by
 refine wpIn_rangeFunc (fun fn hfn=>?_);rw[hro];obtain⟨D,hD⟩:∃D,w.heap.size=D:=⟨_,rfl⟩;obtain⟨rc,hrc⟩:∃rc:LoopState→Option Code→Obj,rc=fun st pe=>.loop { state:=st,pending:=pe,fn,tmps:=a.tmps,params:=ps,assign,body,defers:=D }:=⟨_,rfl⟩
 obtain⟨W1,hW1⟩:∃W1,(w.alloc (.deferred (some []))).alloc (rc .ready none)=W1:=⟨_,rfl⟩;have bW1:Below w.heap.size w W1:=by rw[←hW1];exact((Below.refl _ w).alloc (Nat.le_refl _) _).alloc (by simp) _
 have sz1:W1.heap.size=D+2:=by rw[←hW1];simp[hD]
 have at1:W1.heap[D+1]?=some (rc .ready none)∧W1.heap[D]?=some (.deferred (some [])):=by
  rw[←hW1];constructor
  ·
   have:=World.alloc_heap_new (w.alloc (.deferred (some []))) (rc .ready none);rw[World.size_alloc,hD] at this;exact this
  ·
   have h2:=World.alloc_heap_new w (.deferred (some []));rw[hD] at h2;exact(Below.heap_alloc _ _ _ (by simp[hD])).trans h2
 have noC:∀(U:World) st pe,U.heap[D+1]?=some (rc st pe)→NoC U (D+1):=by
  intro U st pe hU o ho;rw[hU] at ho;cases ho;rw[hrc];rfl
 let J:List α→World→Prop:=fun pre U=>I pre U∧U.heap[D+1]?=some (rc .ready none)∧U.heap[D]?=some (.deferred (some []))
 let Jx:List α→World→Prop:=fun pre U=>Ix pre U∧U.heap[D+1]?=some (rc .done (some .ret))∧U.heap[D]?=some (.deferred (some []))
 refine⟨D+1,[{ target:=.collected D,args:=#[] }],W1,{ target:=.fn (.func gf) lb,args:=#[.func (.yield (D+1)) #[] #[]] },W1,gf,#[.func (.yield (D+1)) #[] #[]]++lb,W1,?_,?_,?_,?_,fun _=>h1,?_⟩
 ·
  have:=run_enterLoop_outer (P:=P) (w:=w) fn a.tmps ps assign body;rw[←hW1,hrc,←hD];exact this
 · simp only[resolve,hg]
   simp[go_sem]
 ·
  intro f' hf';simp[Target.leads] at hf';subst hf';exact hF
 · simp[invoke,go_sem,eg]
 ·
  have hcall:=hseq (D+1) J Jx W1 bW1 (by omega) (fun pre U V hJ hb=>⟨hIw pre U V hJ.1 hb,(hb.block _ (Array.getElem?_eq_some_iff.1 hJ.2.1).1).trans hJ.2.1,(hb.block _ (Array.getElem?_eq_some_iff.1 hJ.2.2).1).trans hJ.2.2⟩)
   (fun pre U hJ=>⟨noC U _ _ hJ.2.1,(Array.getElem?_eq_some_iff.1 hJ.2.1).1,hIb pre U hJ.1⟩) ?_ ⟨hIw [] w W1 h0 bW1,at1⟩
  ·
   refine hcall.mono ?_;rintro e V ⟨⟨v,rfl⟩,hV⟩;rcases hV with ⟨xs,hS,hI,hl,hd⟩|⟨pre,hSp,hX,hl,hd⟩
   ·
    have hl':=hl;rw[hrc] at hl';refine⟨none,_,run_endLoop (P:=P) hl' (by simp),?_⟩;exact hdone D xs _ (Nat.le_of_eq hD) hS (hIl xs V _ _ (by omega) (noC V _ _ hl) hI) ((World.putObj_heap_other (by omega)).trans hd)
   ·
    have hl':=hl;rw[hrc] at hl';refine⟨some .ret,_,run_endLoop (P:=P) hl' (by simp),?_⟩;exact hstop D pre _ (Nat.le_of_eq hD) hSp (hXl pre V _ _ (by omega) (noC V _ _ hl) hX) ((World.putObj_heap_other (by omega)).trans hd)
  ·
   rintro pre x U ⟨hI,hl,hd⟩ hok;have hlt:D+1<U.heap.size:=(Array.getElem?_eq_some_iff.1 hl).1;have hl':=hl;rw[hrc] at hl';have hy:=run_yield (P:=P) (args:=#[enc x]) hl' (by simp[hps]);obtain⟨U1,hU1⟩:∃U1,U.putObj (D+1) (rc .busy none)=U1:=⟨_,rfl⟩;have hbg:=run_beginRound (P:=P) hl' rfl;have eb:U.putObj (D+1) (.loop { state:=.busy,pending:=none,fn:=fn,tmps:=a.tmps,params:=ps,assign:=assign,body:=body,defers:=D })=U1:=by rw[←hU1,hrc]
   rw[eb] at hbg;have hl1:U1.heap[D+1]?=some (rc .busy none):=by rw[←hU1];exact World.putObj_heap_same hlt
   have hd1:U1.heap[D]?=some (.deferred (some [])):=by rw[←hU1];exact(World.putObj_heap_other (by omega)).trans hd
   have o1:Only (D+1) U U1:=by rw[←hU1];exact Only.put _ _ _
   have hI1:I pre U1:=by rw[←hU1];exact hIl pre U _ _ (by omega) (noC U _ _ hl) hI
   have hok1:Ok x U1:=by rw[←hU1];exact hOl x U _ _ (by omega) (noC U _ _ hl) hok
   refine⟨fn,_,assign,body,hy,roundIn_of_wpIn hfn (hassign (D+1) x U _ ⟨U1,hbg,?_⟩)⟩;refine wpIn_mono (hbody (D+1) pre x U1 (by omega) hI1 hok1) ?_;rintro e a3 V hp;cases e with
   |normal=>
    obtain⟨hb,hI3⟩:=hp;have hl3:V.heap[D+1]?=some (rc .busy none):=(hb.block _ (Array.getElem?_eq_some_iff.1 hl1).1).trans hl1;have hd3:V.heap[D]?=some (.deferred (some [])):=(hb.block _ (Array.getElem?_eq_some_iff.1 hd1).1).trans hd1;have hl3':=hl3;rw[hrc] at hl3';refine⟨_,_,run_endRound (P:=P) none hl3',.inl ⟨rfl,⟨hIl _ V _ _ (by omega) (noC V _ _ hl3) hI3,?_,(World.putObj_heap_other (by omega)).trans hd3⟩,(o1.trans (Only.of_below hb)).trans (Only.put _ _ _)⟩⟩;rw[World.putObj_heap_same (Array.getElem?_eq_some_iff.1 hl3).1,hrc];rfl
   |ret=>
    obtain⟨hk,hX3⟩:=hp;have hl3:V.heap[D+1]?=some (rc .busy none):=hk.same _ _ hl1 (by rw[hrc];rfl);have hd3:V.heap[D]?=some (.deferred (some [])):=hk.same _ _ hd1 rfl;have hl3':=hl3;rw[hrc] at hl3';refine⟨_,_,run_endRound (P:=P) (some .ret) hl3',.inr ⟨rfl,hXl _ V _ _ (by omega) (noC V _ _ hl3) hX3,?_,(World.putObj_heap_other (by omega)).trans hd3⟩⟩;rw[World.putObj_heap_same (Array.getElem?_eq_some_iff.1 hl3).1,hrc];rfl
   |exit _=>exact hp.elim
   |goto _=>exact hp.elim
   |panic _=>exact hp.elim
   |outgrown=>exact hp.elim
end
end Go.Proofs.YtldjeecnapgakaaGreatDoor
