/- The law NearSays, walked. -/
import Derived.Test.YtodfmpjhcmapmaaGreatDoorN47NeaY
namespace Go.Proofs.YtodfmpjhcmapmaaGreatDoor
open Go.RowKit
set_option linter.unusedVariables false
set_option linter.unusedSimpArgs false
def oneJs:List S2:=[⟨⟨#[]⟩,⟨#[]⟩⟩,⟨⟨#[51]⟩,⟨#[52]⟩⟩]
def oneBs:List B6:=[⟨0,1,⟨#[49]⟩,⟨#[]⟩,⟨#[]⟩,⟨#[]⟩⟩]
theorem Qo9:FrSized oneJs oneBs []:=by
 refine ⟨fun p hp=>?_,fun b hb=>?_,fun x hx=>?_⟩
 · simp only[oneJs,List.mem_cons,List.not_mem_nil,or_false] at hp
   rcases hp with rfl|rfl<;>exact⟨by decide,by decide⟩
 · simp only[oneBs,List.mem_cons,List.not_mem_nil,or_false] at hb
   subst hb
   exact⟨by decide,by decide,by decide,by decide⟩
 · cases hx
theorem Qhz{i:Nat}{b:B6}(h:oneBs[i]?=some b):b=⟨0,1,⟨#[49]⟩,⟨#[]⟩,⟨#[]⟩,⟨#[]⟩⟩:=by
 have:=List.mem_of_getElem? h
 simpa [oneBs] using this
theorem Qpa:BarCode oneJs ⟨0,1,⟨#[49]⟩,⟨#[]⟩,⟨#[]⟩,⟨#[]⟩⟩ 0:=
 .inr ⟨⟨by decide,by decide⟩,⟨by decide,by decide⟩,_,_,rfl,rfl,0,0,3,4,1,0,0,vqe,vqe,vq3,vq4,vq1,vqe,vqe,by
  rw[if_neg (fun h=>absurd h.1 (by decide)),if_neg (by decide)]⟩
theorem Qpb:FrameFault oneJs oneBs [] 0 0:=
 .inr (.inr ⟨by unfold Many;decide,fun i b h=>by rw[Qhz h];exact Qpa,.inr ⟨fun i x h=>by simp at h,rfl,rfl⟩⟩)
theorem Qpc:∀(i:Nat) (b:B6),oneBs[i]?=some b→Leng oneJs b 25:=fun i b h=>by
 rw[Qhz h];exact⟨by decide,0,1,_,_,0,0,3,4,rfl,rfl,rfl,rfl,vqe,vqe,vq3,vq4,by grind⟩
theorem Qh0{w:World}{g:Nat}{t:TypeId}{xs:List Value}(h:SB w g t xs.toArray):CRow w (some ⟨g,0,none⟩) xs:=⟨fun j u hj=>⟨g,0,rfl,h.lt,by rw[Nat.zero_add,h.cell,List.getElem?_toArray];exact hj⟩⟩
theorem Qpd(g1 g2:Nat)(w:World)(hg:Glob w)(h1:SB w g1 36 #[.string ⟨#[]⟩,.string ⟨#[]⟩,.string ⟨#[51]⟩,.string ⟨#[52]⟩])(h2:SB w g2 39 #[.int .i64 0,.int .i64 1,.string ⟨#[49]⟩,.string ⟨#[]⟩,.string ⟨#[]⟩,.string ⟨#[]⟩]):
 Calls Tryz.prog 4 #[.agg #[.slice (some ⟨g1,0,none⟩) 2 2,.slice (some ⟨g2,0,none⟩) 1 1,.slice none 0 0]] w fun e w'=>∃a,e=.returned (.tuple #[.slice a 1 1,.agg #[.int .i64 0,.int .i64 0]])∧FlAt w' a 1 (fun _ r=>r=4617315517961601024)∧Below w.heap.size w w':=by
 have hf:FrRow w (some ⟨g1,0,none⟩) (some ⟨g2,0,none⟩) none 2 1 0 oneJs oneBs []:=⟨⟨by decide,Qh0 h1⟩,⟨by decide,Qh0 h2⟩,⟨by decide,⟨fun j u hj=>by simp at hj⟩⟩⟩;refine(Qhy (some ⟨g1,0,none⟩) (some ⟨g2,0,none⟩) none 2 1 0 oneJs oneBs [] 0 0 (fun _=>25) w hg hf Qo9 Qpb (fun _=>Qpc)).mono ?_;rintro e w' ⟨a,m,rfl,_,hm,hfl,hb⟩;obtain rfl:m=1:=hm rfl;refine⟨a,rfl,fun i hi=>?_,hb⟩;obtain⟨g,r,e1,e2,e3,e4,e5⟩:=hfl i hi;obtain⟨N,hN⟩:∃N,N=1074:=⟨_,rfl⟩;exact⟨g,r,e1,e2,e3,(e5 N hN).inj (Qo0 hN) e4 (by decide)⟩
theorem Qpe{r:Nat}(h:r≤9218868437227405312)(P:Program)(w:World):(Op.unary .neg (.float .f64 (9223372036854775808+r))).run P w=.ok (.float .f64 r) w:=by
 have e:Op.negFloat .f64 (9223372036854775808+r)=r:=by
  have h1:=Qhn (r:=r) (Nat.lt_of_le_of_lt h (by decide));have h2:(9223372036854775808+r) ^^^ 2 ^ 63=r:=by
   rw[show (9223372036854775808:Nat)=2 ^ 63 by decide,←h1,Nat.xor_assoc,Nat.xor_self,Nat.xor_zero]
  exact h2
 simp[Op.unary,e]
theorem ARow.trow{w:World}{a:Option Addr}{cap:Nat}{es:List ByteArray}(h:ARow tc w a cap es):TRow w a es:=fun i s hi=>h.text hi
theorem Qh1(a:Option Addr)(cap:Nat)(es:List ByteArray):Stay (fun w=>ARow tc w a cap es):=⟨fun _ _ hb h=>h.below hb⟩
theorem FlAt.only{w w':World}{a:Option Addr}{n b:Nat}{t:TypeId}{x y:Int}{φ:Nat→Nat→Prop}(h:FlAt w a n φ)(hs:SB w b t #[.int .i64 x,.int .i64 y])(ho:Only b w w'):FlAt w' a n φ:=fun i hi=>by
 obtain⟨g,r,e,hg,hc,hp⟩:=h i hi;have hne:g≠b:=fun e=>by
  subst e;rw[hs.cell] at hc
  match i with
  |0=>cases hc
  |1=>cases hc
  |i+2=>simp at hc
 refine⟨g,r,e,Nat.lt_of_lt_of_le hg ho.size,?_,hp⟩;rw[←hc];exact World.cell?_of_block (ho.block g hg hne)
theorem Qpf{z:Int}(h:z<0):sgn3 z<0:=by unfold sgn3;rw[if_pos h];decide
theorem Qpg{z:Int}(h:0≤z):¬sgn3 z<0:=by unfold sgn3;rw[if_neg (by omega)];split<;>decide
structure LoopU (w u:World) (B0 b12:Nat) (a1 a2 a3 aq al ap:Option Addr) (c1 c2 c3 cq mp:Nat) (js:List S2) (bs:List B6) (hs:List H3) (ts:List ByteArray) (d dt:Int) (L S:Nat→Rat):Prop where
 base:Below w.heap.size w u
 gl:Glob u
 fr:FrRow u a1 a2 a3 c1 c2 c3 js bs hs
 tx:ARow tc u aq cq ts
 box:SB u B0 26 #[.slice a1 js.length c1,.slice a2 bs.length c2,.slice a3 hs.length c3]
 b12:SB u b12 31 #[.int .i64 d,.int .i64 dt]
 lo:FlAt u al bs.length (fun i r=>NRr (L i) r)
 pu:FlAt u ap mp (fun i r=>PUr (S i) (L i) r)
theorem LoopU.below{w u v:World}{B0 b12:Nat}{a1 a2 a3 aq al ap:Option Addr}{c1 c2 c3 cq mp:Nat}{js:List S2}{bs:List B6}{hs:List H3}{ts:List ByteArray}{d dt:Int}{L S:Nat→Rat}(h:LoopU w u B0 b12 a1 a2 a3 aq al ap c1 c2 c3 cq mp js bs hs ts d dt L S)(hb:Below u.heap.size u v):LoopU w v B0 b12 a1 a2 a3 aq al ap c1 c2 c3 cq mp js bs hs ts d dt L S:=
 ⟨h.base.trans (hb.mono h.base.size),h.gl.below hb,h.fr.below hb,h.tx.below hb,h.box.below hb h.box.lt,h.b12.below hb h.b12.lt,(FlAt.stay _ _ _).step _ _ hb h.lo,(FlAt.stay _ _ _).step _ _ hb h.pu⟩
set_option maxRecDepth 100000 in
set_option maxHeartbeats 8000000 in
theorem Qph(a1 a2 a3 aq:Option Addr)(c1 c2 c3 cq nq:Nat)(js:List S2)(bs:List B6)(hs:List H3)(ts:List ByteArray)(w:World)(hg:Glob w)(hm:Marks3 w)(hf:FrRow w a1 a2 a3 c1 c2 c3 js bs hs)(hz:FrSized js bs hs)
 (n1:js.length≤1048576) (n2:bs.length≤1048576) (n3:hs.length≤1048576) (hq:ARow tc w aq cq ts) (hqn:ts.length=nq) (n4:nq≤1048576) (hqs:∀s,s∈ ts→s.size≤1048576):
 Calls Tryz.prog 3 #[.agg #[.slice a1 js.length c1,.slice a2 bs.length c2,.slice a3 hs.length c3],.slice aq nq cq] w fun e w'=>e=.returned (.bool true)∧Below w.heap.size w w':=by
 have HZ:=Hi hz;have HQN:=Hi hqn;have HQS:=Hi hqs;obtain⟨B0,hB0⟩:∃B0,w.heap.size=B0:=⟨_,rfl⟩;obtain⟨V,hV⟩:∃V,w.alloc (.cells #[.slice a1 js.length c1,.slice a2 bs.length c2,.slice a3 hs.length c3] 26)=V:=⟨_,rfl⟩;have HP:=Hi ((((((PBag.start w).add hg Glob.stay).add hm Marks3.stay).add hf (FrRow.stay _ _ _ _ _ _ _ _ _)).add hq (Qh1 _ _ _)).below (show Below w.heap.size w V from by rw[←hV];exact(Below.refl _ _).alloc (Nat.le_refl _) _));have hsb:SB V B0 26 #[.slice a1 js.length c1,.slice a2 bs.length c2,.slice a3 hs.length c3]:=by rw[←hV,←hB0];exact SB.new w _ _
 have HQ:=Hi (HP.out.add (P:=(fun v=>SB v B0 26 #[.slice a1 js.length c1,.slice a2 bs.length c2,.slice a3 hs.length c3])) hsb (SB.stay _ _ _));clear HP;have HP:=HQ;clear HQ;have HVE:=Hi hV;have HB0:=Hi hB0;have HG:=Hi hg;have HF0:=Hi hf;have HQ0:=Hi hq;clear hg hm hf hz hV hB0 hsb hq hqn hqs;go_enter Tryz.func3,Tryz.ntmps3;go_wp2_with fail;rw[HVE.out];simp only[HB0.out];clear HVE;go_fit (Qrt _ _ V);rintro e w1 ⟨rfl,hb⟩;have HQ:=Hi (HP.out.below hb);clear HP;have HP:=HQ;clear HQ;clear hb;obtain⟨b5,hb5⟩:∃b,w1.heap.size=b:=⟨_,rfl⟩;obtain⟨W1,hW1⟩:∃V,w1.alloc (.cells #[.string ⟨#[]⟩,.string ⟨#[]⟩,.string ⟨#[51]⟩,.string ⟨#[52]⟩] 36)=V:=⟨_,rfl⟩;have hbb:Below w1.heap.size w1 W1:=by rw[←hW1];exact(Below.refl _ _).alloc (Nat.le_refl _) _
 have hsb:SB W1 b5 36 #[.string ⟨#[]⟩,.string ⟨#[]⟩,.string ⟨#[51]⟩,.string ⟨#[52]⟩]:=by rw[←hW1,←hb5];exact SB.new w1 _ _
 have HQ:=Hi (HP.out.below hbb);clear HP;have HP:=HQ;clear HQ;have HQ:=Hi (HP.out.add (P:=(fun v=>SB v b5 36 #[.string ⟨#[]⟩,.string ⟨#[]⟩,.string ⟨#[51]⟩,.string ⟨#[52]⟩])) hsb (SB.stay _ _ _));clear HP;have HP:=HQ;clear HQ;have Hb5:=Hi hb5;have HW1:=Hi hW1;clear hbb hsb hb5 hW1;obtain⟨b6,hb6⟩:∃b,W1.heap.size=b:=⟨_,rfl⟩;obtain⟨W2,hW2⟩:∃V,W1.alloc (.cells #[.int .i64 0,.int .i64 1,.string ⟨#[49]⟩,.string ⟨#[]⟩,.string ⟨#[]⟩,.string ⟨#[]⟩] 39)=V:=⟨_,rfl⟩;have hbb:Below W1.heap.size W1 W2:=by rw[←hW2];exact(Below.refl _ _).alloc (Nat.le_refl _) _
 have hsb:SB W2 b6 39 #[.int .i64 0,.int .i64 1,.string ⟨#[49]⟩,.string ⟨#[]⟩,.string ⟨#[]⟩,.string ⟨#[]⟩]:=by rw[←hW2,←hb6];exact SB.new W1 _ _
 have HQ:=Hi (HP.out.below hbb);clear HP;have HP:=HQ;clear HQ;have HQ:=Hi (HP.out.add (P:=(fun v=>SB v b6 39 #[.int .i64 0,.int .i64 1,.string ⟨#[49]⟩,.string ⟨#[]⟩,.string ⟨#[]⟩,.string ⟨#[]⟩])) hsb (SB.stay _ _ _));clear HP;have HP:=HQ;clear HQ;have Hb6:=Hi hb6;have HW2:=Hi hW2;clear hbb hsb hb6 hW2;have hgl:=HP.out.nth 0 rfl;have h5:=HP.out.nth 5 rfl;have h6:=HP.out.nth 6 rfl;have HLF:=Hi (Qpd b5 b6 W2 hgl h5 h6);clear hgl h5 h6;have Hb6':Hid (b5+1=b6):=Hi (by rw[←Hb6.out,←HW1.out,World.size_alloc,Hb5.out]);go_wp2_with fail;rw[HW1.out,HW2.out];simp only[Hb5.out];simp only[Hb6'.out];go_fit HLF.out;rintro e w2 ⟨al,rfl,hfl,hb⟩;clear HLF Hb6' HW1 HW2 Hb5 Hb6;have HQ:=Hi (HP.out.below hb);clear HP;have HP:=HQ;clear HQ;clear hb;have HFL:=Hi hfl;clear hfl;obtain⟨b7,hb7⟩:∃b,w2.heap.size=b:=⟨_,rfl⟩;obtain⟨W3,hW3⟩:∃V,w2.alloc (.cells #[.int .i64 0,.int .i64 0] 31)=V:=⟨_,rfl⟩
 have hbb:Below w2.heap.size w2 W3:=by rw[←hW3];exact(Below.refl _ _).alloc (Nat.le_refl _) _
 have hsb:SB W3 b7 31 #[.int .i64 0,.int .i64 0]:=by rw[←hW3,←hb7];exact SB.new w2 _ _
 have HQ:=Hi (HP.out.below hbb);clear HP;have HP:=HQ;clear HQ;have HQ:=Hi (HP.out.add (P:=(fun v=>SB v b7 31 #[.int .i64 0,.int .i64 0])) hsb (SB.stay _ _ _));clear HP;have HP:=HQ;clear HQ;have Hb7:=Hi hb7;have HW3:=Hi hW3;clear hbb hsb hb7 hW3;obtain⟨W4,hW4⟩:∃W4,W3.alloc (.cells #[.float .f64 4617315517961601024] 41)=W4:=⟨_,rfl⟩;have hb4:Below W3.heap.size W3 W4:=by rw[←hW4];exact(Below.refl _ _).alloc (Nat.le_refl _) _
 have hb3:Below w2.heap.size w2 W3:=by rw[←HW3.out];exact(Below.refl _ _).alloc (Nat.le_refl _) _
 have hs4:SB W4 W3.heap.size 41 #[.float .f64 4617315517961601024]:=by rw[←hW4];exact SB.new W3 _ _
 have HEQ:=Hi (Qo8 al (some ⟨W3.heap.size,0,none⟩) 1 1 1 4617315517961601024 W4 ((FlAt.stay al 1 _).step _ _ (hb3.trans (hb4.mono hb3.size)) HFL.out) (fun i hi=>⟨_,4617315517961601024,rfl,hs4.lt,by rw[hs4.cell,show i=0 by omega];rfl,rfl⟩) (by decide) (by decide));have HQ:=Hi (HP.out.below hb4);clear HP;have HP:=HQ;clear HQ;have HW4:=Hi hW4;have HSZ:Hid (w2.heap.size+1=W3.heap.size):=Hi (by rw[←HW3.out,World.size_alloc]);clear hW4 hb4 hb3 hs4 HFL;go_wp2_with fail;rw[HW3.out,HW4.out];simp only[HSZ.out];go_fit HEQ.out;rintro e w3 ⟨rfl,hb⟩;clear HEQ HW3 HW4 HSZ Hb7;have HQ:=Hi (HP.out.below hb);clear HP;have HP:=HQ;clear HQ;clear hb;have hbx:=HP.out.nth 4 rfl;have x0:w3.cell? ⟨B0,0,none⟩=some (.slice a1 js.length c1):=hbx.cell 0;have x1:w3.cell? ⟨B0,1,none⟩=some (.slice a2 bs.length c2):=hbx.cell 1;have x2:w3.cell? ⟨B0,2,none⟩=some (.slice a3 hs.length c3):=hbx.cell 2
 have nx:w3.heap.size≠B0:=Nat.ne_of_gt hbx.lt;clear hbx;have hmk:=HP.out.nth 1 rfl;have hfr:=HP.out.nth 2 rfl;have HOW:=Hi (Qpu a1 a2 a3 c1 c2 c3 js bs hs w3 hmk hfr.j hfr.b hfr.h n1 n2 n3);clear hmk hfr;go_wp2_with fail;go_fit HOW.out;rintro e w4 ⟨g1,g2,g3,rfl,r1,r2,r3,hb⟩;clear HOW x0 x1 x2 nx;have HQ:=Hi (HP.out.below hb);clear HP;have HP:=HQ;clear HQ;have HQ:=Hi (HP.out.add (P:=(fun v=>Lent v g1 g2 g3 js bs hs)) ⟨r1,r2,r3⟩ (Lent.stay _ _ _ _ _ _));clear HP;have HP:=HQ;clear HQ;clear r1 r2 r3 hb;have hqr:=HP.out.nth 3 rfl;have HLT:=Hi (Qi9 aq cq ts ⟨#[109,97,114,107]⟩ w4 hqr (by have:=HQN.out;omega));rw[HQN.out] at HLT;clear hqr;go_wp2_with fail;go_fit HLT.out;rintro e w5 ⟨gq,_,rfl,hrq,hb⟩;clear HLT;have HQ:=Hi (HP.out.below hb);clear HP;have HP:=HQ;clear HQ
 have HQ:=Hi (HP.out.add (P:=(fun v=>ARow tc v (some ⟨gq,0,none⟩) (nq+3) (ts++ [⟨#[109,97,114,107]⟩,⟨#[109,97,114,107]⟩,⟨#[109,97,114,107]⟩]))) hrq (Qh1 _ _ _));clear HP;have HP:=HQ;clear HQ;clear hrq hb;obtain⟨bo,hbo⟩:∃b,w5.heap.size=b:=⟨_,rfl⟩;obtain⟨V5,hV5⟩:∃V,w5.alloc (.cells #[.slice (some ⟨g1,0,none⟩) js.length (js.length+3),.slice (some ⟨g2,0,none⟩) bs.length (bs.length+3),.slice (some ⟨g3,0,none⟩) hs.length (hs.length+3)] 26)=V:=⟨_,rfl⟩;have hbb:Below w5.heap.size w5 V5:=by rw[←hV5];exact(Below.refl _ _).alloc (Nat.le_refl _) _
 have hsb:SB V5 bo 26 #[.slice (some ⟨g1,0,none⟩) js.length (js.length+3),.slice (some ⟨g2,0,none⟩) bs.length (bs.length+3),.slice (some ⟨g3,0,none⟩) hs.length (hs.length+3)]:=by rw[←hV5,←hbo];exact SB.new w5 _ _
 have HQ:=Hi (HP.out.below hbb);clear HP;have HP:=HQ;clear HQ;have HQ:=Hi (HP.out.add (P:=(fun v=>SB v bo 26 #[.slice (some ⟨g1,0,none⟩) js.length (js.length+3),.slice (some ⟨g2,0,none⟩) bs.length (bs.length+3),.slice (some ⟨g3,0,none⟩) hs.length (hs.length+3)])) hsb (SB.stay _ _ _));clear HP;have HP:=HQ;clear HQ;have Hbo:=Hi hbo;have HV5:=Hi hV5;clear hbb hsb hbo hV5;obtain⟨c,at_,hff⟩:=FrameFault.ex js bs hs;obtain⟨F,hF⟩:∃F:Nat→Nat × Nat × Rat × Rat,c=0→∀i b,bs[i]?=some b→BarV 1048576 js b (F i)∧Leng js b ((F i).2.2.1*(F i).2.2.1+(F i).2.2.2*(F i).2.2.2):=by
  by_cases hc:c=0
  ·
   subst hc;obtain⟨F,hF⟩:=Qo6 HZ.out hff;exact⟨F,fun _=>hF⟩
  · exact⟨fun _=>(0,0,0,0),fun h=>absurd h hc⟩
 obtain⟨L,hLe⟩:∃L:Nat→Rat,L=fun i=>(F i).2.2.1*(F i).2.2.1+(F i).2.2.2*(F i).2.2.2:=⟨_,rfl⟩
 have HLE:Hid (∀i,L i=(F i).2.2.1*(F i).2.2.1+(F i).2.2.2*(F i).2.2.2):=Hi (fun i=>by rw[hLe]);have HLG:Hid (c=0→∀i b,bs[i]?=some b→Leng js b (L i)):=Hi (fun h i b hi=>by rw[hLe];exact(hF h i b hi).2);have HBV:Hid (c=0→∀i b,bs[i]?=some b→BarV 1048576 js b (F i)):=Hi (fun h i b hi=>(hF h i b hi).1);obtain⟨S,hS⟩:∃S:Nat→Rat,∀i s,ts[i]?=some s→QOf s.data.toList (S i)∧s.size≤1048576:=by
  have:∀i:Nat,∃q:Rat,∀s,ts[i]?=some s→QOf s.data.toList q∧s.size≤1048576:=fun i=>by
   rcases hi:ts[i]? with _|s
   · exact⟨0,fun s h=>by cases h⟩
   · obtain⟨q,hq⟩:=QOf.ex s.data.toList
     exact⟨q,fun s' e=>by cases e;exact⟨hq,HQS.out s (List.mem_of_getElem? hi)⟩⟩
  exact Classical.axiomOfChoice this
 have HSS:=Hi hS;have HFF:=Hi hff;clear hff hF hLe hS;have hbo:=HP.out.nth 10 rfl;have y0:V5.cell? ⟨bo,0,none⟩=some (.slice (some ⟨g1,0,none⟩) js.length (js.length+3)):=hbo.cell 0;have y1:V5.cell? ⟨bo,1,none⟩=some (.slice (some ⟨g2,0,none⟩) bs.length (bs.length+3)):=hbo.cell 1;have y2:V5.cell? ⟨bo,2,none⟩=some (.slice (some ⟨g3,0,none⟩) hs.length (hs.length+3)):=hbo.cell 2;have ny:V5.heap.size≠bo:=Nat.ne_of_gt hbo.lt;clear hbo;rw[←HV5.out] at y0 y1 y2;have hgl:=HP.out.nth 0 rfl;have hle:=HP.out.nth 8 rfl;have HLO:=Hi (Qhy (some ⟨g1,0,none⟩) (some ⟨g2,0,none⟩) (some ⟨g3,0,none⟩) (js.length+3) (bs.length+3) (hs.length+3) js bs hs c at_ L V5 hgl hle.row HZ.out HFF.out HLG.out);clear hgl hle;go_wp2_with fail;rw[HV5.out];simp only[Hbo.out];go_fit HLO.out;rintro e w6 ⟨al2,ml,rfl,hm1,hm2,hfl,hb⟩;clear HLO y0 y1 y2 ny HV5 Hbo;have HQ:=Hi (HP.out.below hb);clear HP;have HP:=HQ;clear HQ;clear hb
 have HQ:=Hi (HP.out.add (P:=(fun v=>FlAt v al2 ml (fun i r=>NRr (L i) r))) hfl (FlAt.stay _ _ _));clear HP;have HP:=HQ;clear HQ;have HML:=Hi (And.intro hm1 hm2);clear hfl hm1 hm2;obtain⟨b10,hb10⟩:∃b,w6.heap.size=b:=⟨_,rfl⟩;obtain⟨V6,hV6⟩:∃V,w6.alloc (.cells #[.int .i64 c,.int .i64 at_] 31)=V:=⟨_,rfl⟩;have hbb:Below w6.heap.size w6 V6:=by rw[←hV6];exact(Below.refl _ _).alloc (Nat.le_refl _) _
 have hsb:SB V6 b10 31 #[.int .i64 c,.int .i64 at_]:=by rw[←hV6,←hb10];exact SB.new w6 _ _
 have HQ:=Hi (HP.out.below hbb);clear HP;have HP:=HQ;clear HQ;have HQ:=Hi (HP.out.add (P:=(fun v=>SB v b10 31 #[.int .i64 c,.int .i64 at_])) hsb (SB.stay _ _ _));clear HP;have HP:=HQ;clear HQ;have Hb10:=Hi hb10;have HV6:=Hi hV6;clear hbb hsb hb10 hV6;obtain⟨d,dt,hd⟩:∃d dt:Int,(c≠0→d=c∧dt=at_)∧(c=0→nq≠bs.length→d=10∧dt=(bs.length:Int)+(hs.length:Int))∧(c=0→nq=bs.length→d=0∧dt=0):=by
  by_cases hc:c=0
  ·
   by_cases hn:nq=bs.length
   · exact⟨0,0,fun h=>absurd hc h,fun _ h=>absurd hn h,fun _ _=>⟨rfl,rfl⟩⟩
   · exact⟨10,_,fun h=>absurd hc h,fun _ _=>⟨rfl,rfl⟩,fun _ h=>absurd h hn⟩
  · exact⟨c,at_,fun _=>⟨rfl,rfl⟩,fun h=>absurd h hc,fun h=>absurd h hc⟩
 have HD:=Hi hd;clear hd;have hbo:=HP.out.nth 10 rfl;have y0:V6.cell? ⟨bo,0,none⟩=some (.slice (some ⟨g1,0,none⟩) js.length (js.length+3)):=hbo.cell 0;have y1:V6.cell? ⟨bo,1,none⟩=some (.slice (some ⟨g2,0,none⟩) bs.length (bs.length+3)):=hbo.cell 1;have y2:V6.cell? ⟨bo,2,none⟩=some (.slice (some ⟨g3,0,none⟩) hs.length (hs.length+3)):=hbo.cell 2;have ny:V6.heap.size≠bo:=Nat.ne_of_gt hbo.lt;clear hbo;rw[←HV6.out] at y0 y1 y2;have hgl:=HP.out.nth 0 rfl;have hle:=HP.out.nth 8 rfl;have hqr:=HP.out.nth 9 rfl;have HPU:=Hi (Qo7 (some ⟨g1,0,none⟩) (some ⟨g2,0,none⟩) (some ⟨g3,0,none⟩) (some ⟨gq,0,none⟩) (js.length+3) (bs.length+3) (hs.length+3) (nq+3) nq js bs hs ts c at_ d dt L S V6 hgl hle.row HZ.out HFF.out HLG.out hqr.left.trow HQN.out HSS.out HD.out);clear hgl hle hqr;go_wp2_with fail;rw[HV6.out];simp only[Hb10.out];go_fit HPU.out;rintro e w7 ⟨ap,mp,rfl,hm1,hm2,hfl,hb⟩
 clear HPU y0 y1 y2 ny HV6;have HQ:=Hi (HP.out.below hb);clear HP;have HP:=HQ;clear HQ;clear hb;have HQ:=Hi (HP.out.add (P:=(fun v=>FlAt v ap mp (fun i r=>PUr (S i) (L i) r))) hfl (FlAt.stay _ _ _));clear HP;have HP:=HQ;clear HQ;have HMP:=Hi (And.intro hm1 hm2);clear hfl hm1 hm2;obtain⟨b12,hb12⟩:∃b,w7.heap.size=b:=⟨_,rfl⟩;obtain⟨V7,hV7⟩:∃V,w7.alloc (.cells #[.int .i64 d,.int .i64 dt] 31)=V:=⟨_,rfl⟩;have hbb:Below w7.heap.size w7 V7:=by rw[←hV7];exact(Below.refl _ _).alloc (Nat.le_refl _) _
 have hsb:SB V7 b12 31 #[.int .i64 d,.int .i64 dt]:=by rw[←hV7,←hb12];exact SB.new w7 _ _
 have HQ:=Hi (HP.out.below hbb);clear HP;have HP:=HQ;clear HQ;have HQ:=Hi (HP.out.add (P:=(fun v=>SB v b12 31 #[.int .i64 d,.int .i64 dt])) hsb (SB.stay _ _ _));clear HP;have HP:=HQ;clear HQ;have Hb12:=Hi hb12;have HV7:=Hi hV7;clear hbb hsb hb12 hV7;have hbx:=HP.out.nth 4 rfl;have x0:V7.cell? ⟨B0,0,none⟩=some (.slice a1 js.length c1):=hbx.cell 0;have x1:V7.cell? ⟨B0,1,none⟩=some (.slice a2 bs.length c2):=hbx.cell 1;have x2:V7.cell? ⟨B0,2,none⟩=some (.slice a3 hs.length c3):=hbx.cell 2;have nx:V7.heap.size≠B0:=Nat.ne_of_gt hbx.lt;clear hbx;rw[←HV7.out] at x0 x1 x2;have hgl:=HP.out.nth 0 rfl;have hfr:=HP.out.nth 2 rfl;have HCF:=Hi (Qqp a1 a2 a3 c1 c2 c3 js bs hs V7 hgl hfr HZ.out);clear hgl hfr;go_wp2_with fail;rw[HV7.out];simp only[Hb12.out];go_fit HCF.out;rintro e w8 ⟨c',at',rfl,hff,hb⟩;obtain⟨e1,e2⟩:=HFF.out.inj hff;subst e1;subst e2;clear HCF x0 x1 x2 nx HV7 hff
 have HQ:=Hi (HP.out.below hb);clear HP;have HP:=HQ;clear HQ;clear hb;have k4:=HP.out.nth 4 rfl;have k10:=HP.out.nth 12 rfl;have k12:=HP.out.nth 14 rfl;have HLT13:Hid (b10<w8.heap.size∧b12<w8.heap.size∧B0<w8.heap.size∧w.heap.size≤w8.heap.size):=Hi ⟨k10.lt,k12.lt,k4.lt,HP.out.base.size⟩;clear k4 k10 k12;obtain⟨b13,hb13⟩:∃b,w8.heap.size=b:=⟨_,rfl⟩;obtain⟨V8,hV8⟩:∃V,w8.alloc (.cells #[.int .i64 c,.int .i64 at_] 31)=V:=⟨_,rfl⟩;have hbb:Below w8.heap.size w8 V8:=by rw[←hV8];exact(Below.refl _ _).alloc (Nat.le_refl _) _
 have hsb:SB V8 b13 31 #[.int .i64 c,.int .i64 at_]:=by rw[←hV8,←hb13];exact SB.new w8 _ _
 have HQ:=Hi (HP.out.below hbb);clear HP;have HP:=HQ;clear HQ;have HQ:=Hi (HP.out.add (P:=(fun v=>SB v b13 31 #[.int .i64 c,.int .i64 at_])) hsb (SB.stay _ _ _));clear HP;have HP:=HQ;clear HQ;have Hb13:=Hi hb13;have HV8:=Hi hV8;clear hbb hsb hb13 hV8;rw[Hb13.out] at HLT13;have hbo:=HP.out.nth 10 rfl;have y0:V8.cell? ⟨bo,0,none⟩=some (.slice (some ⟨g1,0,none⟩) js.length (js.length+3)):=hbo.cell 0;have y1:V8.cell? ⟨bo,1,none⟩=some (.slice (some ⟨g2,0,none⟩) bs.length (bs.length+3)):=hbo.cell 1;have y2:V8.cell? ⟨bo,2,none⟩=some (.slice (some ⟨g3,0,none⟩) hs.length (hs.length+3)):=hbo.cell 2;have ny:V8.heap.size≠bo:=Nat.ne_of_gt hbo.lt;clear hbo;have hbx:=HP.out.nth 4 rfl;have x0:V8.cell? ⟨B0,0,none⟩=some (.slice a1 js.length c1):=hbx.cell 0;have x1:V8.cell? ⟨B0,1,none⟩=some (.slice a2 bs.length c2):=hbx.cell 1;have x2:V8.cell? ⟨B0,2,none⟩=some (.slice a3 hs.length c3):=hbx.cell 2
 have nx:V8.heap.size≠B0:=Nat.ne_of_gt hbx.lt;clear hbx;have k10:=HP.out.nth 12 rfl;have u0:V8.cell? ⟨b10,0,none⟩=some (.int .i64 c):=k10.cell 0;have u1:V8.cell? ⟨b10,1,none⟩=some (.int .i64 at_):=k10.cell 1;rw[←HV8.out] at x0 x1 x2 y0 y1 y2 u0 u1;clear k10;have hmk:=HP.out.nth 1 rfl;have hle:=HP.out.nth 8 rfl;have hfr:=HP.out.nth 2 rfl;have HKE:=Hi (Qlc g1 g2 g3 a1 a2 a3 c1 c2 c3 js bs hs V8 hmk hle hfr n1 n2 n3);clear hmk hle hfr;go_wp2_with fail;rw[HV8.out];simp only[Hb13.out];go_fit HKE.out;rintro e w9 ⟨rfl,hb⟩;clear HKE x0 x1 x2 y0 y1 y2 nx ny u0 u1 HV8;have HQ:=Hi (HP.out.below hb);clear HP;have HP:=HQ;clear HQ;clear hb;have hqr:=HP.out.nth 9 rfl;have hq0:=HP.out.nth 3 rfl;rw[←HQN.out] at hqr;have HST:=Hi (Qja gq aq cq ts ⟨#[109,97,114,107]⟩ w9 hqr hq0 (by have:=HQN.out;omega));rw[HQN.out] at HST;clear hqr hq0;go_wp2_with fail;go_fit HST.out;rintro e w10 ⟨rfl,hb⟩;clear HST
 have HQ:=Hi (HP.out.below hb);clear HP;have HP:=HQ;clear HQ;clear hb;have k10:=HP.out.nth 12 rfl;have k12:=HP.out.nth 14 rfl;have k13:=HP.out.nth 15 rfl;have u0:w10.cell? ⟨b10,0,none⟩=some (.int .i64 c):=k10.cell 0;have u2:w10.cell? ⟨b12,0,none⟩=some (.int .i64 d):=k12.cell 0;have u3:w10.cell? ⟨b12,1,none⟩=some (.int .i64 dt):=k12.cell 1;have u4:w10.cell? ⟨b13,0,none⟩=some (.int .i64 c):=k13.cell 0;have u5:w10.cell? ⟨b13,1,none⟩=some (.int .i64 at_):=k13.cell 1;have K10:=Hi k10;have K12:=Hi k12;have K13:=Hi k13;clear k10 k12 k13;by_cases hc:c=0
 rotate_left 1
 ·
  obtain⟨rfl,rfl⟩:=HD.out.1 hc;obtain rfl:=HML.out.1 hc;obtain rfl:=HMP.out.1 hc;have e0:(d != 0)=true:=by simpa using hc
  have e1:(d == 0)=false:=by simpa using hc
  clear hc;go_wp2;go_ret;exact⟨rfl,HP.out.base⟩
 ·
  subst hc;have hfew:=HFF.out.few;obtain rfl:at_=0:=hfew.2.2.2;have hm:=hfew.1;unfold Many at hm;have m1:js.length≤10:=by omega
  have m2:bs.length≤24:=by omega
  have m3:hs.length≤20:=by omega
  obtain rfl:=HML.out.2 rfl;obtain⟨N,hN⟩:∃N,N=1074:=⟨_,rfl⟩;have HN:=Hi hN;clear hfew hm hN;have kl:=HP.out.nth 11 rfl;have HKL:=Hi kl;have kp:=HP.out.nth 13 rfl;have HKP:=Hi kp;have k4:=HP.out.nth 4 rfl;have K4:=Hi k4;clear kl kp k4;have hbx:=HP.out.nth 4 rfl;have x0:w10.cell? ⟨B0,0,none⟩=some (.slice a1 js.length c1):=hbx.cell 0;have x1:w10.cell? ⟨B0,1,none⟩=some (.slice a2 bs.length c2):=hbx.cell 1;have x2:w10.cell? ⟨B0,2,none⟩=some (.slice a3 hs.length c3):=hbx.cell 2;have nx:w10.heap.size≠B0:=Nat.ne_of_gt hbx.lt;clear hbx;by_cases hn:nq=bs.length
  ·
   obtain⟨rfl,rfl⟩:=HD.out.2.2 rfl hn;have hmp:=HMP.out.2 rfl;subst hmp;have q1:((nq:Int) != (bs.length:Int))=false:=by simp;omega
   have HLU:Hid (LoopU w w10 B0 b12 a1 a2 a3 aq al2 ap c1 c2 c3 cq bs.length js bs hs ts 0 0 L S):=Hi ⟨HP.out.base,HP.out.nth 0 rfl,HP.out.nth 2 rfl,HP.out.nth 3 rfl,K4.out,K12.out,HKL.out,HKP.out⟩;have HNQ:=Hi hn;clear hn nx;go_wp2_with fail;clear x0 x1 x2 u0 u2 u3 u4 u5;go_loopw [133] (fun iv wr=>∃k:Nat,k≤bs.length∧iv=.int .i64 k∧Below w10.heap.size w10 wr) (fun iv _=>bs.length - (intOf iv).toNat)
   case atStart=>exact⟨0,by omega,rfl,Below.refl _ _⟩
   case round=>
    obtain⟨k,hk,rfl,hb⟩:=hrel;have HU:=Hi (HLU.out.below hb);have HBR:=Hi hb;clear hb;by_cases hlt:k<bs.length
    ·
     obtain⟨b,hbk⟩:∃b,bs[k]?=some b:=⟨bs[k],List.getElem?_eq_getElem hlt⟩;have x0:wr.cell? ⟨B0,0,none⟩=some (.slice a1 js.length c1):=HU.out.box.cell 0;have x1:wr.cell? ⟨B0,1,none⟩=some (.slice a2 bs.length c2):=HU.out.box.cell 1;have x2:wr.cell? ⟨B0,2,none⟩=some (.slice a3 hs.length c3):=HU.out.box.cell 2;have HWY:=Hi (Qi7 a1 a2 a3 c1 c2 c3 k js bs hs b (F k) wr HU.out.gl.most HU.out.fr hbk (HBV.out (by simp) k b hbk) m1 m2);have q3:((k:Int)<(bs.length:Int)):=by omega
     clear hbk;go_wp2_with fail;go_fit HWY.out;rintro e z1 ⟨p1,p2,rfl,hbag⟩;have HX:Hid (RF (F k).2.2.1 8388611 (.pointer (some ⟨p1,0,none⟩)) z1):=Hi ⟨p1,rfl,hbag.ts _ (List.Mem.head _)⟩;have HY:Hid (RF (F k).2.2.2 8388611 (.pointer (some ⟨p2,0,none⟩)) z1):=Hi ⟨p2,rfl,hbag.ts _ (List.Mem.tail _ (List.Mem.head _))⟩;have HB1:=Hi hbag.base;clear hbag HWY x0 x1 x2;go_wp2_with fail;refine Makes.use2 (HX.out.mul HX.out (by decide)) ?_;intro v2 z2 hb hv2;have HX2:=Hi hv2;have HY2:=Hi (HY.out.below hb);have HB2:=Hi (HB1.out.trans (hb.mono HB1.out.size));clear hb;clear hv2;go_wp2_with fail;refine Makes.use2 (HY2.out.mul HY2.out (by decide)) ?_;intro v3 z3 hb hv3;have HX3:=Hi (HX2.out.below hb);have HY3:=Hi hv3;have HB3:=Hi (HB2.out.trans (hb.mono HB2.out.size));clear hb;clear hv3;go_wp2_with fail;refine Makes.use2 (HX3.out.add HY3.out (by decide)) ?_;intro v4 z4 hb hv4
     have HLO:Hid (RF (L k) 33554445 v4 z4):=Hi (by rw[HLE.out];exact hv4);have HB4:=Hi (HB3.out.trans (hb.mono HB3.out.size));clear hb;clear hv4 HX HY HX2 HY2 HX3 HY3;obtain⟨gl,r,e1,e2,l0,e4,e5⟩:=(HU.out.below HB4.out).lo k hlt;subst e1;have HIS:=Hi (Qdm HLO.out (by decide) e4 HN.out (e5 N HN.out));clear e2 e4 e5;go_wp2_with fail;refine Makes.use2 HIS.out ?_;intro v5 z5 hb hv5;obtain rfl:v5=.bool true:=hv5;have HLO5:=Hi (HLO.out.below hb);have HB5:=Hi (HB4.out.trans (hb.mono HB4.out.size));clear hb;have d0:z5.cell? ⟨b12,0,none⟩=some (.int .i64 0):=(HU.out.below HB5.out).b12.cell 0;clear l0 HIS HLO;obtain⟨sq,hsq⟩:∃sq,ts[k]?=some sq:=⟨ts[k]'(by have:=HQN.out;have:=HNQ.out;omega),List.getElem?_eq_getElem (by have:=HQN.out;have:=HNQ.out;omega)⟩;obtain⟨qb,qo,rfl,hqb,hcq⟩:=(HU.out.below HB5.out).tx.text hsq;obtain⟨q1s,q2s⟩:=HSS.out k sq hsq
     have HOF:=Hi (RF.of (K:=4194305) (HU.out.below HB5.out).gl q1s (Nat.le_trans q2s (by decide)) (QOf.fits q1s (n:=1048576) (by rw[Array.length_toList];exact q2s)) (by decide));have q4:((k:Int)<(nq:Int)):=by have:=HNQ.out;omega
     clear hsq hqb q1s q2s;go_wp2_with fail;refine Makes.use2 HOF.out ?_;intro v6 z6 hb hv6;have HT6:=Hi hv6;have HLO6:=Hi (HLO5.out.below hb);have HB6:=Hi (HB5.out.trans (hb.mono HB5.out.size));clear hb;obtain⟨gp,r2,e1,e2,l1,e4⟩:=(HU.out.below HB6.out).pu k hlt;subst e1;have HPR:=Hi e4;have HSG:=Hi hv6.sign;clear hcq d0 HOF hv6 e2 e4;go_wp2_with fail;refine Makes.use2 HSG.out ?_;intro v7 z7 hb hv7;obtain⟨sg,hsg⟩:∃sg,sgn3 (S k).num=sg:=⟨_,rfl⟩;rw[hsg] at hv7;obtain rfl:v7=.int .i64 sg:=hv7;have HT7:=Hi (HT6.out.below hb);have HLO7:=Hi (HLO6.out.below hb);have HB7:=Hi (HB6.out.trans (hb.mono HB6.out.size));clear hb;clear HT6 HLO6 HSG l1;by_cases hneg:(S k).num<0
     ·
      have t1:decide (sg<0)=true:=by rw[←hsg,decide_eq_true_eq];exact Qpf hneg
      obtain⟨R,rfl,hnr⟩:=HPR.out.2 hneg;have HNR:=Hi hnr;have hng:=fun w=>Qpe hnr.1 Tryz.prog w
      clear hneg hsg hnr;go_wp2_with fail;refine Makes.use2 (HT7.out.mul HT7.out (by decide)) ?_;intro v8 z8 hb hv8;have HT8:=Hi hv8;have HLO8:=Hi (HLO7.out.below hb);have HB8:=Hi (HB7.out.trans (hb.mono HB7.out.size));clear hb;clear hv8;go_wp2_with fail;refine Makes.use2 (HT8.out.mul HLO8.out (by decide)) ?_;intro v9 z9 hb hv9;have HIS:=Hi (Qdm hv9 (by decide) HNR.out.1 HN.out (HNR.out.2 N HN.out));have HB9:=Hi (HB8.out.trans (hb.mono HB8.out.size));clear hb;clear hv9;go_wp2_with fail;refine Makes.use2 HIS.out ?_;intro v10 z10 hb hv10;obtain rfl:v10=.bool true:=hv10;have HB10:=Hi (HB9.out.trans (hb.mono HB9.out.size));clear hb;go_wp2;go_roundw
      case rel=>exact⟨k+1,by omega,by go_num,bTr HBR.out HB10.out⟩
      case measure=>simp[intOf];omega
     ·
      have t1:decide (sg<0)=false:=by rw[←hsg,decide_eq_false_iff_not];exact Qpg (by omega)
      have HNR:=Hi (HPR.out.1 (by omega));clear hneg hsg;go_wp2_with fail;refine Makes.use2 (HT7.out.mul HT7.out (by decide)) ?_;intro v8 z8 hb hv8;have HT8:=Hi hv8;have HLO8:=Hi (HLO7.out.below hb);have HB8:=Hi (HB7.out.trans (hb.mono HB7.out.size));clear hb;clear hv8;go_wp2_with fail;refine Makes.use2 (HT8.out.mul HLO8.out (by decide)) ?_;intro v9 z9 hb hv9;have HIS:=Hi (Qdm hv9 (by decide) HNR.out.1 HN.out (HNR.out.2 N HN.out));have HB9:=Hi (HB8.out.trans (hb.mono HB8.out.size));clear hb;clear hv9;go_wp2_with fail;refine Makes.use2 HIS.out ?_;intro v10 z10 hb hv10;obtain rfl:v10=.bool true:=hv10;have HB10:=Hi (HB9.out.trans (hb.mono HB9.out.size));clear hb;go_wp2;go_roundw
      case rel=>exact⟨k+1,by omega,by go_num,bTr HBR.out HB10.out⟩
      case measure=>simp[intOf];omega
    ·
     obtain rfl:k=bs.length:=by omega
     go_wp2;go_ret;exact⟨rfl,HU.out.base⟩
  ·
   obtain⟨rfl,rfl⟩:=HD.out.2.1 rfl hn;obtain rfl:=HMP.out.1 (by decide);have q1:((nq:Int) != (bs.length:Int))=true:=by simp;omega
   clear hn;go_wp2_with fail;go_fit (Qre a1 a2 a3 c1 c2 c3 js.length bs.length hs.length w10 m2 m3);rintro e w11 ⟨rfl,hb⟩;have HB11:=Hi hb;clear x0 x1 x2 nx u0 u2 u3 u4 u5 hb;go_wp2_with fail;go_fit (Qqq 10 _ w11);rintro e w12 ⟨rfl,hb⟩;have HB12:=Hi (HB11.out.trans (hb.mono HB11.out.size));clear hb;have k10:=K10.out.below HB12.out K10.out.lt;have k12:=K12.out.below HB12.out K12.out.lt;have k13:=K13.out.below HB12.out K13.out.lt;have k4:=K4.out.below HB12.out K4.out.lt;have hl:=HLT13.out;obtain⟨y,hy⟩:∃y:Int,(bs.length:Int)+(hs.length:Int)=y:=⟨_,rfl⟩;rw[hy] at k12;obtain⟨u,hu⟩:∃u,(w12.setCell ⟨b13,0,none⟩ (.int .i64 10)).setCell ⟨b13,1,none⟩ (.int .i64 y)=u:=⟨_,rfl⟩;have ho:Only b13 w12 u:=by rw[←hu];exact((Only.refl b13 w12).setCell 0 _).setCell 1 _
   have hbase:Below w.heap.size w u:=Only.fresh (HP.out.base.trans (HB12.out.mono HP.out.base.size)) ho hl.2.2.2;have s4:=k4.only ho (by omega);have s10:=k10.only ho (by omega);have s12:=k12.only ho (by omega);have HLU:Hid (LoopU w u B0 b12 a1 a2 a3 aq al2 ap c1 c2 c3 cq 0 js bs hs ts 10 y L S):=Hi ⟨hbase,HG.out.below hbase,HF0.out.below hbase,HQ0.out.below hbase,s4,s12,((FlAt.stay _ _ _).step _ _ HB12.out HKL.out).only k13 ho,fun i hi=>absurd hi (by omega)⟩;have t0:u.cell? ⟨b10,0,none⟩=some (.int .i64 0):=s10.cell 0;have t2:u.cell? ⟨b12,0,none⟩=some (.int .i64 10):=s12.cell 0;have t3:u.cell? ⟨b12,1,none⟩=some (.int .i64 y):=s12.cell 1;have s13:SB u b13 31 #[.int .i64 10,.int .i64 y]:=by rw[←hu];exact(k13.set 0 _).set 1 _
   have t4:u.cell? ⟨b13,0,none⟩=some (.int .i64 10):=s13.cell 0;have t5:u.cell? ⟨b13,1,none⟩=some (.int .i64 y):=s13.cell 1;have t6:u.cell? ⟨B0,1,none⟩=some (.slice a2 bs.length c2):=s4.cell 1;have f0:=k13.free 0;have f1:=k13.free 1;have r0:=k13.cell 0;have r1:=k13.cell 1;simp only[List.getElem?_toArray,List.getElem?_cons_zero,List.getElem?_cons_succ] at r0 r1;have HU0:=Hi hu;rw[←hu] at t0 t2 t3 t4 t5 t6;rw[hy];clear k10 k12 k13 k4 hl hy hu ho hbase s4 s10 s12 s13;go_wp2_with fail;rw[HU0.out];clear t0 t2 t3 t4 t5 t6 f0 f1 r0 r1;go_loopw [133] (fun iv wr=>∃k:Nat,k≤bs.length∧iv=.int .i64 k∧Below u.heap.size u wr) (fun iv _=>bs.length - (intOf iv).toNat)
   case atStart=>exact⟨0,by omega,rfl,Below.refl _ _⟩
   case round=>
    obtain⟨k,hk,rfl,hb⟩:=hrel;have HU:=Hi (HLU.out.below hb);have HBR:=Hi hb;clear hb;by_cases hlt:k<bs.length
    ·
     obtain⟨b,hbk⟩:∃b,bs[k]?=some b:=⟨bs[k],List.getElem?_eq_getElem hlt⟩;have x0:wr.cell? ⟨B0,0,none⟩=some (.slice a1 js.length c1):=HU.out.box.cell 0;have x1:wr.cell? ⟨B0,1,none⟩=some (.slice a2 bs.length c2):=HU.out.box.cell 1;have x2:wr.cell? ⟨B0,2,none⟩=some (.slice a3 hs.length c3):=HU.out.box.cell 2;have HWY:=Hi (Qi7 a1 a2 a3 c1 c2 c3 k js bs hs b (F k) wr HU.out.gl.most HU.out.fr hbk (HBV.out (by simp) k b hbk) m1 m2);have q3:((k:Int)<(bs.length:Int)):=by omega
     clear hbk;go_wp2_with fail;go_fit HWY.out;rintro e z1 ⟨p1,p2,rfl,hbag⟩;have HX:Hid (RF (F k).2.2.1 8388611 (.pointer (some ⟨p1,0,none⟩)) z1):=Hi ⟨p1,rfl,hbag.ts _ (List.Mem.head _)⟩;have HY:Hid (RF (F k).2.2.2 8388611 (.pointer (some ⟨p2,0,none⟩)) z1):=Hi ⟨p2,rfl,hbag.ts _ (List.Mem.tail _ (List.Mem.head _))⟩;have HB1:=Hi hbag.base;clear hbag HWY x0 x1 x2;go_wp2_with fail;refine Makes.use2 (HX.out.mul HX.out (by decide)) ?_;intro v2 z2 hb hv2;have HX2:=Hi hv2;have HY2:=Hi (HY.out.below hb);have HB2:=Hi (HB1.out.trans (hb.mono HB1.out.size));clear hb;clear hv2;go_wp2_with fail;refine Makes.use2 (HY2.out.mul HY2.out (by decide)) ?_;intro v3 z3 hb hv3;have HX3:=Hi (HX2.out.below hb);have HY3:=Hi hv3;have HB3:=Hi (HB2.out.trans (hb.mono HB2.out.size));clear hb;clear hv3;go_wp2_with fail;refine Makes.use2 (HX3.out.add HY3.out (by decide)) ?_;intro v4 z4 hb hv4
     have HLO:Hid (RF (L k) 33554445 v4 z4):=Hi (by rw[HLE.out];exact hv4);have HB4:=Hi (HB3.out.trans (hb.mono HB3.out.size));clear hb;clear hv4 HX HY HX2 HY2 HX3 HY3;obtain⟨gl,r,e1,e2,l0,e4,e5⟩:=(HU.out.below HB4.out).lo k hlt;subst e1;have HIS:=Hi (Qdm HLO.out (by decide) e4 HN.out (e5 N HN.out));clear e2 e4 e5;go_wp2_with fail;refine Makes.use2 HIS.out ?_;intro v5 z5 hb hv5;obtain rfl:v5=.bool true:=hv5;have HLO5:=Hi (HLO.out.below hb);have HB5:=Hi (HB4.out.trans (hb.mono HB4.out.size));clear hb;have d0:z5.cell? ⟨b12,0,none⟩=some (.int .i64 10):=(HU.out.below HB5.out).b12.cell 0;clear l0 HIS HLO;go_wp2;go_roundw
     case rel=>exact⟨k+1,by omega,by go_num,bTr HBR.out HB5.out⟩
     case measure=>simp[intOf];omega
    ·
     obtain rfl:k=bs.length:=by omega
     go_wp2;go_ret;exact⟨rfl,HU.out.base⟩
end Go.Proofs.YtodfmpjhcmapmaaGreatDoor
