import Derived.Test.YtjgofdclmcpopaaGreatDoorC47RatL
namespace Go.Proofs.YtjgofdclmcpopaaGreatDoor
open Go.RowKit
open Go.Proofs.Tryz
set_option linter.unusedSimpArgs false
set_option linter.unusedVariables false
set_option maxHeartbeats 8000000
set_option maxRecDepth 1000000
structure MotVals (ss:List S2) (ts:List RT) (K:Nat):Prop where
 len:ts.length=2*ss.length
 val:∀(i:Nat) (s:S2),ss[i]?=some s->∃t u:RT,ts[2*i]?=some t/\ts[2*i+1]?=some u/\QOf s.x.data.toList t.2.1/\QOf s.y.data.toList u.2.1/\t.2.2=K/\u.2.2=K
theorem MotVals.snoc{ss:List S2}{k K:Nat}{s:S2}{ts:List RT}{t u:RT}(h:MotVals (ss.take k) ts K)(hs:ss[k]?=some s)(ht:QOf s.x.data.toList t.2.1)(hu:QOf s.y.data.toList u.2.1)(ht2:t.2.2=K)(hu2:u.2.2=K):MotVals (ss.take (k+1)) (ts++ [t,u]) K:=by
 have hk:=(gZ hs).1;have hl:(ss.take k).length=k:=by rw[List.length_take];omega
 have hl2:=h.len;rw[hl] at hl2;have e:ss.take (k+1)=ss.take k++ [s]:=by rw[List.take_add_one,hs];rfl
 refine⟨by rw[e,List.length_append,List.length_append,h.len];simp;omega,fun i r hi=>?_⟩;rw[e] at hi;by_cases hik:i<k
 .
  rw[List.getElem?_append_left (by omega)] at hi;obtain⟨t',u',h1,h2,h3⟩:=h.val i r hi;exact⟨t',u',by rw[List.getElem?_append_left (by omega)];exact h1,by rw[List.getElem?_append_left (by omega)];exact h2,h3⟩
 .
  have hik':i=k:=by
   have:=(gZ hi).1;rw[List.length_append,hl] at this;simp at this;omega
  subst hik';rw[List.getElem?_append_right (by omega),hl,Nat.sub_self] at hi;obtain rfl:=Option.some.inj hi;refine⟨t,u,?_,?_,ht,hu,ht2,hu2⟩
  . rw[List.getElem?_append_right (by omega),hl2,Nat.sub_self];rfl
  . rw[List.getElem?_append_right (by omega),hl2,show 2*i+1 - 2*i=1 by omega];rfl
theorem RVs.two{w0 u:World}{L:List RT}{s t:RT}(h:RBag w0 u L)(hs:s∈ L)(ht:t∈ L):RVs u [s,t]:=fun x hx=>by
 simp only[List.mem_cons,List.not_mem_nil,or_false] at hx;rcases hx with rfl|rfl
 . exact h.ts _ hs
 . exact h.ts _ ht
theorem Qiq{w0 u u':World}{b i:Nat}{s:ByteArray}(hf:Fp u u')(hb:Below w0.heap.size w0 u)(hlt:b<w0.heap.size)(hc:w0.cell? ⟨b,i,none⟩=some (.string s)):u'.cell? ⟨b,i,none⟩=some (.string s):=by
 have h1:u.cell? ⟨b,i,none⟩=some (.string s):=ce hb hlt hc;exact(hf.cell h1 (Qri _) i).trans h1
theorem Qpf{ops:Array Oper}{o:Oper}{a:Act}{u:World}{K':Act->World->Prop}{Q:Exit->Act->World->Prop}{E:Prop}(hg:o.guard=none)(sl x:Operand)(hop:o.op=Op.call { callee:=Callee.builtin Builtin.append,args:=#[sl,x],argTypes:=#[92,92] })
 {B nb c:Nat} {v:Value} {ts:List RT} {s t:RT} (he:a.eval sl=v) (hx:a.eval x=.slice (some ⟨nb,0,none⟩) 2 c) (hG:PGrow u B v ts) (hV:RVs u [s,t]) (hC:SB u nb 40 #[ptrV s,ptrV t]) (hn:ts.length+2<=1048576) (hB:B<=u.heap.size)
 (hK:∀v' u',PGrow u' B v' (ts++ [s,t])->Below B u u'->Fp u u'->K' (a.put o.dst v') u'):
 if Region.wanted o (yielded ops a.tmps)=true then Oper.wp prog o a u K' Q else E:=by
 obtain⟨v',u',hr,h2,h3,h4⟩:=hG.app (us:=[s,t]) (m:=2) (nb:=nb) (c:=c) hV rfl (fun j y hj=>by
  rw[Qar,Nat.zero_add,hC.cell];rw[<-hj]
  simp) hn hB o.type
 exact Qbf hg sl x hop he hx hr (hK v' u' h2 h3 h4)
theorem Qir(a:Option Addr)(cap n:Nat)(ss:List S2)(w:World)(hg:∃m,w.cell? ⟨5,0,none⟩=some (.int .i64 m))(h:ARow S2.cells w a cap ss)(hl:ss.length<=500000)(hn:n<=1073741824)(hs:∀s,s∈ ss->s.x.size<=n/\s.y.size<=n):
 Calls prog 56 #[.slice a ss.length cap] w fun e w'=>∃(v:Value) (ts:List RT),e=.returned v/\PGrow w' w.heap.size v ts/\MotVals ss ts (4*n+1)/\Below w.heap.size w w':=by
 obtain⟨HH,HGL,HS⟩:=Ib h (RBag.start hg) hs;clear h hg hs;go_enter func56,ntmps56;go_wp2_with fail;go_loopw [8,3] (fun iv ov wr=>∃(k:Nat) (ts:List RT),k<=ss.length/\iv=.int .i64 k/\PGrow wr w.heap.size ov ts/\MotVals (ss.take k) ts (4*n+1)/\Below w.heap.size w wr) (fun iv _ _=>ss.length - (intOf iv).toNat)
 case atStart=>exact⟨0,[],Nat.zero_le _,rfl,PGrow.nil _ _,⟨rfl,fun i s hi=>by simp at hi⟩,Below.refl _ _⟩
 case round=>
  obtain⟨k,ts,hk,rfl,hpg,hmv,hbw⟩:=hrel;obtain⟨HPG,HMV,HBW⟩:=Ib hpg hmv hbw;clear hpg hmv hbw;by_cases hks:k<ss.length
  .
   obtain⟨s,hs⟩:∃s,ss[k]?=some s:=⟨ss[k],gE hks⟩;obtain⟨fb,off,rfl,hfb,c0,c1⟩:=(HH.o.below HBW.o).spot hs;obtain⟨hz0,hz1⟩:=HS.o s (mO hs);have q1:((k:Int)<(ss.length:Int)):=by omega
   have HSK:=Hi hs;have HTL:O (ts.length+2<=1048576):=Hi (by have:=HMV.o.len;rw[List.length_take] at this;omega);clear hs;go_wp2_with fail;generalize hwR:wr.alloc _=wR;have hsb:SB wR wr.heap.size 25 #[.string s.x,.string s.y]:=by rw[<-hwR];exact SB.new wr _ _
   have hbR:Below wr.heap.size wr wR:=by rw[<-hwR];exact(Below.refl _ _).alloc lZ _
   have HR:=Hi ((HGL.o.below HBW.o).below hbR).rebase;obtain⟨HBR,HGW⟩:=Ia (HBW.o.trans (hbR.mono HBW.o.size)) (HPG.o.below hbR);have hltR:=hsb.lt;obtain⟨HC0,HC1⟩:=Ia (hsb.cell 0) (hsb.cell 1);obtain⟨d0,d1,-⟩:=zc hsb;clear hsb hbR hwR c0 c1;go_region_held3 (fun v=>v.cell? ⟨wr.heap.size,0,none⟩=some (.string s.x)/\v.cell? ⟨wr.heap.size,1,none⟩=some (.string s.y)) ((first|(simp [*];done)|go_keep)) (first
    |
     (go_at_call_of 23 (Value.string s.x)
      apply cM;apply RBag.of (w0:=wR) (n:=n);(focus(first|exact HR.o|exact HR.o.drew));omega;omega;rintro e wn ⟨x,hq,bx,rfl,hbag⟩;have HX:=Hi hq;clear HR;have HR:=Hi hbag;clear hq hbag;obtain⟨d0,d1⟩:=Ja HR.o.base hltR HC0.o HC1.o;have HG1:=Hi (HGW.o.below HR.o.base)
      skip)
    |
     (go_at_call_of 23 (Value.string s.y)
      apply cM;apply RBag.of (w0:=wR) (n:=n);(focus(first|exact HR.o|exact HR.o.drew));omega;omega;rintro e wn ⟨y,hq,bv,rfl,hbag⟩;have HY:=Hi hq;clear HR;have HR:=Hi hbag;clear hq hbag;obtain⟨d0,d1⟩:=Ja HR.o.base hltR HC0.o HC1.o;have HG1:=Hi (HGW.o.below HR.o.base)
      skip)
    |(
     refine Qpf rfl (.tmp 12) (.tmp 19) rfl (B:=w.heap.size) (v:=u3) (ts:=ts) (s:=(bx,x,4*n+1)) (t:=(bv,y,4*n+1)) rfl rfl ?hG ?hV ?hC HTL.o ?hB ?_
     case hG=>(focus(repeat(first|exact HG1.o|apply PGrow.alloc|apply PGrow.drew)))
     case hV=>exact RVs.two (by first|exact HR.o.alloc _|exact HR.o.drew.alloc _|exact(HR.o.alloc _).drew) (by simp) (by simp)
     case hC=>exact(by first|exact SB.new _ _ _|exact(SB.new _ _ _).drew)
     case hB=>exact(by have h1:=HBR.o.size;have h2:=HR.o.base.size;simp;omega)
     intro v' u' hv' hb' hf';obtain⟨HV,HU⟩:=Ia hv' ((by(first|exact HBR.o.trans ((HR.o.base.alloc HR.o.base.size _).mono HBR.o.size)|exact HBR.o.trans ((HR.o.base.drew.alloc HR.o.base.drew.size _).mono HBR.o.size)|exact HBR.o.trans ((HR.o.base.alloc HR.o.base.size _).drew.mono HBR.o.size)):Below w.heap.size w _).trans hb');have d0:=Qiq hf' (by first|exact(HR.o.alloc _).base|exact(HR.o.drew.alloc _).base|exact((HR.o.alloc _).drew).base) hltR HC0.o;have d1:=Qiq hf' (by first|exact(HR.o.alloc _).base|exact(HR.o.drew.alloc _).base|exact((HR.o.alloc _).drew).base) hltR HC1.o;clear hv' hb' hf'
     skip)
    |fail)
   all_goals
    have HM:=Hi (HMV.o.snoc (t:=(bx,x,4*n+1)) (u:=(bv,y,4*n+1)) HSK.o HX.o HY.o rfl rfl);go_wp2;go_roundw
    case rel=>exact⟨k+1,_,by omega,by go_num,(by first|exact HV.o|exact HV.o.drew),HM.o,(by first|exact HU.o|exact HU.o.drew)⟩
    case measure=>simp[intOf];omega
  .
   obtain rfl:k=ss.length:=by omega
   go_wp2;go_ret;refine⟨_,ts,rfl,HPG.o,?_,HBW.o⟩;have:=HMV.o;rw[List.take_length] at this;exact this
def qv(ts:List RT):Vec:=fun i=>(ts.map (·.2.1)).getD i 0
theorem qv_at{ts:List RT}{i:Nat}{t:RT}(h:ts[i]?=some t):qv ts i=t.2.1:=by simp[qv,List.getD,h]
theorem Qis(a b:Option Addr)(ca cb K1 K2:Nat)(xs ys:List RT)(w:World)(hx:PRow w a xs)(hy:PRow w b ys)(hl:ys.length=xs.length)(hl20:xs.length<=20)(h1:∀t,t∈ xs->t.2.2<=K1)(h2:∀t,t∈ ys->t.2.2<=K2)(hK:21*(K1+K2+2)<274877906000):
 Calls prog 57 #[.slice a xs.length ca,.slice b xs.length cb] w fun e w'=>∃g:Nat,e=.returned (.pointer (some ⟨g,0,none⟩))/\RatVal w' g (dot xs.length (qv xs) (qv ys))/\Fits (dot xs.length (qv xs) (qv ys)) (xs.length*(K1+K2+2)+1)/\w.heap.size<=g/\Below w.heap.size w w':=by
 obtain⟨HX,HY,HL,H1,H2⟩:=Id hx hy hl h1 h2;clear hx hy hl h1 h2;obtain⟨g,hg⟩:=nm w.heap.size;obtain⟨V,hV⟩:=nm (w.alloc (.cells #[.bool false,.slice none 0 0,.bool false,.slice none 0 0] 116));have HBV:=Ua hV;have HRV:O (RatVal V g 0):=Hi (by rw[<-hV,<-hg];exact Qa0 w);obtain⟨HVE,HGE⟩:=Ia hV hg;clear hV hg;go_enter func57,ntmps57;go_wp2_with fail;rw[HVE.o,HGE.o];go_loopw [10] (fun iv wr=>∃k:Nat,k<=xs.length/\iv=.int .i64 k/\RatVal wr g (dot k (qv xs) (qv ys))/\Fits (dot k (qv xs) (qv ys)) (k*(K1+K2+2)+1)/\Below w.heap.size w wr) (fun iv _=>xs.length - (intOf iv).toNat)
 case atStart=>exact⟨0,Nat.zero_le _,rfl,HRV.o,Fits.zero.mono (by omega),HBV.o⟩
 case round=>
  obtain⟨k,hk,rfl,hrv,hft,hbw⟩:=hrel;obtain⟨HRV,HFT,HB⟩:=Ib hrv hft hbw;clear hrv hft hbw;by_cases hkx:k<xs.length
  .
   obtain⟨s,hs⟩:∃s,xs[k]?=some s:=⟨xs[k],gE hkx⟩;obtain⟨t,ht⟩:∃t,ys[k]?=some t:=⟨ys[k]'(by have:=HL.o;omega),gE _⟩;obtain⟨ab,ao,rfl,hab,D0⟩:=HX.o.at hs;obtain⟨bb,bo,rfl,hbb,D1⟩:=HY.o.at ht;have hsv:=HX.o.vs s (mO hs);have htv:=HY.o.vs t (mO ht);have hs1:=H1.o s (mO hs);have ht2:=H2.o t (mO ht);obtain⟨q,hq⟩:=nm (dot k (qv xs) (qv ys));have HQN:O (dot (k+1) (qv xs) (qv ys)=q+s.2.1*t.2.1):=Hi (by
    show dot k (qv xs) (qv ys)+qv xs k*qv ys k=_
    rw[hq,qv_at hs,qv_at ht])
   rw[hq] at HRV HFT;obtain⟨KC,hKC⟩:=nm (k*(K1+K2+2));have hKB:KC<=20*(K1+K2+2):=by rw[<-hKC];exact Nat.mul_le_mul_right _ (by omega)
   have HKN:O ((k+1)*(K1+K2+2)=KC+(K1+K2+2)):=Hi (by rw[Nat.succ_mul,hKC]);rw[hKC] at HFT;have HFP:O (Fits (s.2.1*t.2.1) (K1+K2+1)):=Hi (((hsv.2.1.mono hs1).mul (htv.2.1.mono ht2) (by have:=hsv.2.2;omega)).mono (by omega));have HML:O (∀u,Below w.heap.size w u->Calls prog 22 #[.pointer (some ⟨s.1,0,none⟩),.pointer (some ⟨t.1,0,none⟩)] u (NewRat u (s.2.1*t.2.1))):=Hi (fun u hu=>Qka s.1 t.1 K1 K2 s.2.1 t.2.1 u (hsv.1.below hu) (htv.1.below hu) (hsv.2.1.mono hs1) (htv.2.1.mono ht2) (by omega));obtain⟨HD0,HD1⟩:=Ia D0 D1;have d0:=ce HB.o hab D0;have d1:=ce HB.o hbb D1;have q1:((k:Int)<(xs.length:Int)):=by omega
   have hgw:w.heap.size<=g:=by have:=HGE.o;omega
   clear hs ht D0 D1 hsv htv hs1 ht2 hq hKC;go_wp2_with fail;go_region_held3 (fun v=>v.cell? ⟨ab,ao+k,none⟩=some (.pointer (some ⟨s.1,0,none⟩))/\v.cell? ⟨bb,bo+k,none⟩=some (.pointer (some ⟨t.1,0,none⟩))) ((first|(simp [*];done)|go_keep)) (first
    |(
     go_at_call 22;apply cM;apply HML.o;(focus(first|exact HB.o|exact HB.o.drew));rintro e w5 ⟨⟨bq,rfl,_,hqv⟩,hb5⟩;obtain⟨HQV,HR5,HB5⟩:=Ib hqv ((by first|exact HRV.o|exact HRV.o.below bR.drew:RatVal _ g q).below hb5) ((by first|exact HB.o|exact HB.o.drew:Below w.heap.size w _).trans (hb5.mono (by first|exact HB.o.size|exact HB.o.drew.size)));clear HB hqv hb5 d0 d1;have HB:=HB5;have d0:=ce HB.o hab HD0.o;have d1:=ce HB.o hbb HD1.o
     skip)
    |(
     go_at_call 59;apply cM;(first
      |exact Qd2 g g bq (KC+1) (K1+K2+1) q (s.2.1*t.2.1) _ HR5.o.room HR5.o HQV.o HFT.o HFP.o (by omega)
      |exact Qd2 g g bq (KC+1) (K1+K2+1) q (s.2.1*t.2.1) _ (HR5.o.below bR.drew).room (HR5.o.below bR.drew) (HQV.o.below bR.drew) HFT.o HFP.o (by omega))
     rintro e w6 hok;have HRN:=Hi (RatOk.val hok);obtain⟨rfl,hon,_⟩:=hok;have HB6:=Hi ((by first|exact HB.o|exact HB.o.drew:Below w.heap.size w _).trans (hon.below hgw (by first|exact HB.o.size|exact HB.o.drew.size)));clear HB hon d0 d1;have HB:=HB6;have d0:=ce HB.o hab HD0.o;have d1:=ce HB.o hbb HD1.o
     skip)
    |fail)
   all_goals
    go_wp2;go_roundw
    case rel=>
     refine⟨k+1,by omega,by go_num,?_,?_,(by first|exact HB.o|exact HB.o.drew)⟩
     . rw[HQN.o]
       first|exact HRN.o|exact HRN.o.below bR.drew
     . rw[HQN.o,HKN.o]
       exact(HFT.o.add HFP.o).mono (by omega)
    case measure=>simp[intOf];omega
  .
   obtain rfl:k=xs.length:=by omega
   go_wp2;go_ret;exact⟨g,rfl,HRV.o,HFT.o,by have:=HGE.o;omega,HB.o⟩
theorem Qun(a1 a2 a3:Option Addr)(c1 c2 c3 i:Nat)(js:List S2)(bs:List B6)(hs:List H3)(b:B6)(p:Nat × Nat × Rat × Rat)(w:World)(hg:∃m,w.cell? ⟨5,0,none⟩=some (.int .i64 m))(hf:FrRow w a1 a2 a3 c1 c2 c3 js bs hs)(hi:bs[i]?=some b)(hb:BarV 1048576 js b p)(n1:js.length<=10)(n2:bs.length<=24):
 Calls prog 134 #[.agg #[.slice a1 js.length c1,.slice a2 bs.length c2,.slice a3 hs.length c3],.int .i64 i] w fun e w'=>∃b1 b2,e=.returned (.tuple #[.pointer (some ⟨b1,0,none⟩),.pointer (some ⟨b2,0,none⟩)])/\RBag w w' [(b1,p.2.2.1,8388611),(b2,p.2.2.2,8388611)]:=by
 obtain⟨A,B,rx,ry⟩:=p;obtain⟨s,t,x1,y1,x2,y2,e1,e2,z1,z2,z3,z4,q1,q2,q3,q4,e3,e4⟩:=hb.ex;have hA:=hb.a;have hB:=hb.b;simp only at e1 e2 e3 e4 hA hB;subst e3;subst e4;have hil:=(gZ hi).1;have hAl:=(gZ e1).1;have hBl:=(gZ e2).1;obtain⟨HG,HF,HI,HS,HT,HZ,HQ⟩:=If (RBag.start hg) hf hi e1 e2 (⟨z1,z2,z3,z4⟩:s.x.size<=1048576/\s.y.size<=1048576/\t.x.size<=1048576/\t.y.size<=1048576) (⟨q1,q2,q3,q4⟩:QOf s.x.data.toList x1/\QOf s.y.data.toList y1/\QOf t.x.data.toList x2/\QOf t.y.data.toList y2);have iA:((A:Int)<(js.length:Int)):=by omega
 have iB:((B:Int)<(js.length:Int)):=by omega
 have iI:((i:Int)<(bs.length:Int)):=by omega
 clear hg hf hi e1 e2 z1 z2 z3 z4 q1 q2 q3 q4 hb;obtain⟨B0,hB0⟩:=nm w.heap.size;obtain⟨V,hV⟩:=nm (w.alloc (.cells #[.slice a1 js.length c1,.slice a2 bs.length c2,.slice a3 hs.length c3] 54));have HBV:=Ua hV;have hsV:SB V B0 54 #[.slice a1 js.length c1,.slice a2 bs.length c2,.slice a3 hs.length c3]:=by rw[<-hV,<-hB0];exact SB.new w _ _
 obtain⟨jb,jo,rfl,hjb,u0,u1⟩:=(HF.o.below HBV.o).j.spot HS.o;obtain⟨jb',jo',e',_,u2,u3⟩:=(HF.o.below HBV.o).j.spot HT.o;cases e';obtain⟨bb,bo,rfl,hbb,f2,f3,_⟩:=(HF.o.below HBV.o).b.bar HI.o;rw[hA] at f2;rw[hB] at f3;have f0:=hsV.cell 0;have f1:=hsV.cell 1;simp at f0 f1;have hlt0:=hsV.lt;have nw0:V.heap.size≠B0:=by omega
 have nw1:V.heap.size+1≠B0:=by omega
 have nw2:V.heap.size≠jb:=by omega
 have nw3:V.heap.size+1≠jb:=by omega
 have nw4:V.heap.size≠bb:=by omega
 have nw5:V.heap.size+1≠bb:=by omega
 obtain⟨HV,HB0⟩:=Ia hV hB0;clear hV hB0 hsV hA hB hlt0;go_enter func134,ntmps134;go_wp2_with fail;rw[HV.o];simp only[HB0.o];go_region_held3 (fun v=>v.cell? ⟨B0,0,none⟩=some (.slice (some ⟨jb,jo,none⟩) js.length c1)/\v.cell? ⟨B0,1,none⟩=some (.slice (some ⟨bb,bo,none⟩) bs.length c2)/\v.cell? ⟨bb,bo+i*6,none⟩=some (.int .i64 (A:Nat))/\v.cell? ⟨bb,bo+i*6+1,none⟩=some (.int .i64 (B:Nat))/\v.cell? ⟨jb,jo+A*2,none⟩=some (.string s.x)/\v.cell? ⟨jb,jo+A*2+1,none⟩=some (.string s.y)/\v.cell? ⟨jb,jo+B*2,none⟩=some (.string t.x)/\v.cell? ⟨jb,jo+B*2+1,none⟩=some (.string t.y)) ((first|(simp [*];done)|go_keep)) (fail)
 .
  obtain⟨X,hX⟩:=nm (((V.alloc (.cells #[.string s.x,.string s.y] 25)).alloc (.cells #[.string t.x,.string t.y] 25)).drew);have hbX:Below V.heap.size V X:=by rw[<-hX];exact((bR.alloc lZ _).alloc (by simp) _).drew
  have hss:SB X (V.heap.size) 25 #[.string s.x,.string s.y]:=by rw[<-hX];exact((SB.new V _ _).alloc _)
  have hst:SB X (V.heap.size+1) 25 #[.string t.x,.string t.y]:=by rw[<-hX];exact Qax V _ _ _
  obtain⟨HSS,HST⟩:=Ia hss hst;have HBX:O (Below w.heap.size w X):=Hi (HBV.o.trans (hbX.mono HBV.o.size));have HR:O (RBag X X []):=Hi (HG.o.below HBX.o).rebase;have k0:=hss.cell 0;have k1:=hss.cell 1;have k2:=hst.cell 0;have k3:=hst.cell 1;simp at k0 k1 k2 k3;have HXE:=Hi hX;clear hbX hss hst hX f0 f1 f2 f3 u0 u1 u2 u3;rw[HXE.o];go_wp2_with fail;go_region_held3 (fun v=>v.cell? ⟨V.heap.size,0,none⟩=some (.string s.x)/\v.cell? ⟨V.heap.size,1,none⟩=some (.string s.y)/\v.cell? ⟨V.heap.size+1,0,none⟩=some (.string t.x)/\v.cell? ⟨V.heap.size+1,1,none⟩=some (.string t.y)) ((first|(simp [*];done)|go_keep)) (first
   |
    (go_at_call_of 23 (Value.string t.x)
     apply cM;apply RBag.of (w0:=X) (n:=1048576) t.x;(first|exact HR.o|exact HR.o.drew);exact HZ.o.2.2.1;omega;rintro e wn ⟨q,hq,b1,rfl,hbag⟩;rw[hq.inj HQ.o.2.2.1] at hbag;clear HR k0 k1 k2 k3;have HR:=Hi hbag;clear hq hbag;have k0:=(HSS.o.below HR.o.base HSS.o.lt).cell 0;have k1:=(HSS.o.below HR.o.base HSS.o.lt).cell 1;have k2:=(HST.o.below HR.o.base HST.o.lt).cell 0;have k3:=(HST.o.below HR.o.base HST.o.lt).cell 1;simp at k0 k1 k2 k3
     skip)
   |
    (go_at_call_of 23 (Value.string s.x)
     apply cM;apply RBag.of (w0:=X) (n:=1048576) s.x;(first|exact HR.o|exact HR.o.drew);exact HZ.o.1;omega;rintro e wn ⟨q,hq,b2,rfl,hbag⟩;rw[hq.inj HQ.o.1] at hbag;clear HR k0 k1 k2 k3;have HR:=Hi hbag;clear hq hbag;have k0:=(HSS.o.below HR.o.base HSS.o.lt).cell 0;have k1:=(HSS.o.below HR.o.base HSS.o.lt).cell 1;have k2:=(HST.o.below HR.o.base HST.o.lt).cell 0;have k3:=(HST.o.below HR.o.base HST.o.lt).cell 1;simp at k0 k1 k2 k3
     skip)
   |
    (go_at_call_of 74 (Value.pointer (some ⟨b1,0,none⟩))
     apply cM;apply RBag.sub (w0:=X);(first|exact HR.o|exact HR.o.drew);(focus(repeat(first|exact mH|apply mT)));(focus(repeat(first|exact mH|apply mT)));omega;rintro e wn ⟨b3,rfl,hbag⟩;clear HR k0 k1 k2 k3;have HR:=Hi hbag;clear hbag;have k0:=(HSS.o.below HR.o.base HSS.o.lt).cell 0;have k1:=(HSS.o.below HR.o.base HSS.o.lt).cell 1;have k2:=(HST.o.below HR.o.base HST.o.lt).cell 0;have k3:=(HST.o.below HR.o.base HST.o.lt).cell 1;simp at k0 k1 k2 k3
     skip)
   |
    (go_at_call_of 23 (Value.string t.y)
     apply cM;apply RBag.of (w0:=X) (n:=1048576) t.y;(first|exact HR.o|exact HR.o.drew);exact HZ.o.2.2.2;omega;rintro e wn ⟨q,hq,b4,rfl,hbag⟩;rw[hq.inj HQ.o.2.2.2] at hbag;clear HR k0 k1 k2 k3;have HR:=Hi hbag;clear hq hbag;have k0:=(HSS.o.below HR.o.base HSS.o.lt).cell 0;have k1:=(HSS.o.below HR.o.base HSS.o.lt).cell 1;have k2:=(HST.o.below HR.o.base HST.o.lt).cell 0;have k3:=(HST.o.below HR.o.base HST.o.lt).cell 1;simp at k0 k1 k2 k3
     skip)
   |
    (go_at_call_of 23 (Value.string s.y)
     apply cM;apply RBag.of (w0:=X) (n:=1048576) s.y;(first|exact HR.o|exact HR.o.drew);exact HZ.o.2.1;omega;rintro e wn ⟨q,hq,b5,rfl,hbag⟩;rw[hq.inj HQ.o.2.1] at hbag;clear HR k0 k1 k2 k3;have HR:=Hi hbag;clear hq hbag;have k0:=(HSS.o.below HR.o.base HSS.o.lt).cell 0;have k1:=(HSS.o.below HR.o.base HSS.o.lt).cell 1;have k2:=(HST.o.below HR.o.base HST.o.lt).cell 0;have k3:=(HST.o.below HR.o.base HST.o.lt).cell 1;simp at k0 k1 k2 k3
     skip)
   |
    (go_at_call_of 74 (Value.pointer (some ⟨b4,0,none⟩))
     apply cM;apply RBag.sub (w0:=X);(first|exact HR.o|exact HR.o.drew);(focus(repeat(first|exact mH|apply mT)));(focus(repeat(first|exact mH|apply mT)));omega;rintro e wn ⟨b6,rfl,hbag⟩;clear HR k0 k1 k2 k3;have HR:=Hi hbag;clear hbag;have k0:=(HSS.o.below HR.o.base HSS.o.lt).cell 0;have k1:=(HSS.o.below HR.o.base HSS.o.lt).cell 1;have k2:=(HST.o.below HR.o.base HST.o.lt).cell 0;have k3:=(HST.o.below HR.o.base HST.o.lt).cell 1;simp at k0 k1 k2 k3
     skip)
   |fail)
  all_goals
   clear k0 k1 k2 k3;go_wp2;go_ret2;refine⟨b3,b6,rfl,(by first|exact HR.o|exact HR.o.drew:RBag X _ _).mono HBX.o (fun f hf=>?_)⟩;simp only[List.mem_cons,List.not_mem_nil,or_false] at hf;rcases hf with rfl|rfl
   .
    exact⟨_,(by
     (focus(repeat(first|exact mH|apply mT)))
     skip),Nat.le_refl _⟩
   .
    exact⟨_,(by
     (focus(repeat(first|exact mH|apply mT)))
     skip),Nat.le_refl _⟩
 .
  obtain⟨X,hX⟩:=nm (((V.alloc (.cells #[.string t.x,.string t.y] 25)).alloc (.cells #[.string s.x,.string s.y] 25)).drew);have hbX:Below V.heap.size V X:=by rw[<-hX];exact((bR.alloc lZ _).alloc (by simp) _).drew
  have hss:SB X (V.heap.size+1) 25 #[.string s.x,.string s.y]:=by rw[<-hX];exact Qax V _ _ _
  have hst:SB X (V.heap.size) 25 #[.string t.x,.string t.y]:=by rw[<-hX];exact((SB.new V _ _).alloc _)
  obtain⟨HSS,HST⟩:=Ia hss hst;have HBX:O (Below w.heap.size w X):=Hi (HBV.o.trans (hbX.mono HBV.o.size));have HR:O (RBag X X []):=Hi (HG.o.below HBX.o).rebase;have k0:=hss.cell 0;have k1:=hss.cell 1;have k2:=hst.cell 0;have k3:=hst.cell 1;simp at k0 k1 k2 k3;have HXE:=Hi hX;clear hbX hss hst hX f0 f1 f2 f3 u0 u1 u2 u3;rw[HXE.o];go_wp2_with fail;go_region_held3 (fun v=>v.cell? ⟨V.heap.size+1,0,none⟩=some (.string s.x)/\v.cell? ⟨V.heap.size+1,1,none⟩=some (.string s.y)/\v.cell? ⟨V.heap.size,0,none⟩=some (.string t.x)/\v.cell? ⟨V.heap.size,1,none⟩=some (.string t.y)) ((first|(simp [*];done)|go_keep)) (first
   |
    (go_at_call_of 23 (Value.string t.x)
     apply cM;apply RBag.of (w0:=X) (n:=1048576) t.x;(first|exact HR.o|exact HR.o.drew);exact HZ.o.2.2.1;omega;rintro e wn ⟨q,hq,b1,rfl,hbag⟩;rw[hq.inj HQ.o.2.2.1] at hbag;clear HR k0 k1 k2 k3;have HR:=Hi hbag;clear hq hbag;have k0:=(HSS.o.below HR.o.base HSS.o.lt).cell 0;have k1:=(HSS.o.below HR.o.base HSS.o.lt).cell 1;have k2:=(HST.o.below HR.o.base HST.o.lt).cell 0;have k3:=(HST.o.below HR.o.base HST.o.lt).cell 1;simp at k0 k1 k2 k3
     skip)
   |
    (go_at_call_of 23 (Value.string s.x)
     apply cM;apply RBag.of (w0:=X) (n:=1048576) s.x;(first|exact HR.o|exact HR.o.drew);exact HZ.o.1;omega;rintro e wn ⟨q,hq,b2,rfl,hbag⟩;rw[hq.inj HQ.o.1] at hbag;clear HR k0 k1 k2 k3;have HR:=Hi hbag;clear hq hbag;have k0:=(HSS.o.below HR.o.base HSS.o.lt).cell 0;have k1:=(HSS.o.below HR.o.base HSS.o.lt).cell 1;have k2:=(HST.o.below HR.o.base HST.o.lt).cell 0;have k3:=(HST.o.below HR.o.base HST.o.lt).cell 1;simp at k0 k1 k2 k3
     skip)
   |
    (go_at_call_of 74 (Value.pointer (some ⟨b1,0,none⟩))
     apply cM;apply RBag.sub (w0:=X);(first|exact HR.o|exact HR.o.drew);(focus(repeat(first|exact mH|apply mT)));(focus(repeat(first|exact mH|apply mT)));omega;rintro e wn ⟨b3,rfl,hbag⟩;clear HR k0 k1 k2 k3;have HR:=Hi hbag;clear hbag;have k0:=(HSS.o.below HR.o.base HSS.o.lt).cell 0;have k1:=(HSS.o.below HR.o.base HSS.o.lt).cell 1;have k2:=(HST.o.below HR.o.base HST.o.lt).cell 0;have k3:=(HST.o.below HR.o.base HST.o.lt).cell 1;simp at k0 k1 k2 k3
     skip)
   |
    (go_at_call_of 23 (Value.string t.y)
     apply cM;apply RBag.of (w0:=X) (n:=1048576) t.y;(first|exact HR.o|exact HR.o.drew);exact HZ.o.2.2.2;omega;rintro e wn ⟨q,hq,b4,rfl,hbag⟩;rw[hq.inj HQ.o.2.2.2] at hbag;clear HR k0 k1 k2 k3;have HR:=Hi hbag;clear hq hbag;have k0:=(HSS.o.below HR.o.base HSS.o.lt).cell 0;have k1:=(HSS.o.below HR.o.base HSS.o.lt).cell 1;have k2:=(HST.o.below HR.o.base HST.o.lt).cell 0;have k3:=(HST.o.below HR.o.base HST.o.lt).cell 1;simp at k0 k1 k2 k3
     skip)
   |
    (go_at_call_of 23 (Value.string s.y)
     apply cM;apply RBag.of (w0:=X) (n:=1048576) s.y;(first|exact HR.o|exact HR.o.drew);exact HZ.o.2.1;omega;rintro e wn ⟨q,hq,b5,rfl,hbag⟩;rw[hq.inj HQ.o.2.1] at hbag;clear HR k0 k1 k2 k3;have HR:=Hi hbag;clear hq hbag;have k0:=(HSS.o.below HR.o.base HSS.o.lt).cell 0;have k1:=(HSS.o.below HR.o.base HSS.o.lt).cell 1;have k2:=(HST.o.below HR.o.base HST.o.lt).cell 0;have k3:=(HST.o.below HR.o.base HST.o.lt).cell 1;simp at k0 k1 k2 k3
     skip)
   |
    (go_at_call_of 74 (Value.pointer (some ⟨b4,0,none⟩))
     apply cM;apply RBag.sub (w0:=X);(first|exact HR.o|exact HR.o.drew);(focus(repeat(first|exact mH|apply mT)));(focus(repeat(first|exact mH|apply mT)));omega;rintro e wn ⟨b6,rfl,hbag⟩;clear HR k0 k1 k2 k3;have HR:=Hi hbag;clear hbag;have k0:=(HSS.o.below HR.o.base HSS.o.lt).cell 0;have k1:=(HSS.o.below HR.o.base HSS.o.lt).cell 1;have k2:=(HST.o.below HR.o.base HST.o.lt).cell 0;have k3:=(HST.o.below HR.o.base HST.o.lt).cell 1;simp at k0 k1 k2 k3
     skip)
   |fail)
  all_goals
   clear k0 k1 k2 k3;go_wp2;go_ret2;refine⟨b3,b6,rfl,(by first|exact HR.o|exact HR.o.drew:RBag X _ _).mono HBX.o (fun f hf=>?_)⟩;simp only[List.mem_cons,List.not_mem_nil,or_false] at hf;rcases hf with rfl|rfl
   .
    exact⟨_,(by
     (focus(repeat(first|exact mH|apply mT)))
     skip),Nat.le_refl _⟩
   .
    exact⟨_,(by
     (focus(repeat(first|exact mH|apply mT)))
     skip),Nat.le_refl _⟩
def stretch(p:Nat × Nat × Rat × Rat)(v:Vec):Rat:=p.2.2.1*(v (2*p.2.1) - v (2*p.1))+p.2.2.2*(v (2*p.2.1+1) - v (2*p.1+1))
theorem RBag.all{w0 w:World}{L M:List RT}(h:RBag w0 w L)(k:RVs w M):RBag w0 w (L++M):=⟨h.base,h.glob,fun t ht=>by
 rcases List.mem_append.1 ht with ht|ht
 . exact h.ts t ht
 . exact k t ht⟩
theorem Qgn(a1 a2 a3 av:Option Addr)(c1 c2 c3 cv i K:Nat)(js:List S2)(bs:List B6)(hs:List H3)(b:B6)(p:Nat × Nat × Rat × Rat)(ts:List RT)(w:World)(hg:∃m,w.cell? ⟨5,0,none⟩=some (.int .i64 m))(hf:FrRow w a1 a2 a3 c1 c2 c3 js bs hs)(hi:bs[i]?=some b)(hb:BarV 1048576 js b p)(n1:js.length<=10)(n2:bs.length<=24)
 (hv:PRow w av ts) (hl:ts.length=2*js.length) (hk:∀t,t∈ ts->t.2.2<=K) (hK:4*K<200000000000):
 Calls prog 58 #[.agg #[.slice a1 js.length c1,.slice a2 bs.length c2,.slice a3 hs.length c3],.int .i64 i,.slice av ts.length cv] w fun e w'=>∃g,e=.returned (.pointer (some ⟨g,0,none⟩))/\RBag w w' [(g,stretch p (qv ts),4*K+16777225)]:=by
 have HWY:=Hi (fun u (hu:Below w.heap.size w u)=>Qun a1 a2 a3 c1 c2 c3 i js bs hs b p u ((RBag.start hg).below hu).glob (hf.below hu) hi hb n1 n2);obtain⟨s,t,x1,y1,x2,y2,e1,e2,_⟩:=hb.ex;have hA:=hb.a;have hB:=hb.b;have hil:=(gZ hi).1;have hAl:=(gZ e1).1;have hBl:=(gZ e2).1;obtain⟨A,B,rx,ry⟩:=p;simp only at hA hB hAl hBl;obtain⟨⟨g1,q1,k1⟩,h1⟩:∃t,ts[2*B]?=some t:=⟨ts[2*B]'(by omega),gE _⟩;obtain⟨⟨g2,q2,k2⟩,h2⟩:∃t,ts[2*A]?=some t:=⟨ts[2*A]'(by omega),gE _⟩;obtain⟨⟨g3,q3,k3⟩,h3⟩:∃t,ts[2*B+1]?=some t:=⟨ts[2*B+1]'(by omega),gE _⟩;obtain⟨⟨g4,q4,k4⟩,h4⟩:∃t,ts[2*A+1]?=some t:=⟨ts[2*A+1]'(by omega),gE _⟩;have m1:=mO h1;have m2:=mO h2;have m3:=mO h3;have m4:=mO h4
 have l1:=hk _ m1;have l2:=hk _ m2;have l3:=hk _ m3;have l4:=hk _ m4;simp only at l1 l2 l3 l4;have HRV:O (RVs w [(g1,q1,K),(g2,q2,K),(g3,q3,K),(g4,q4,K)]):=Hi (fun x hx=>by
  simp only[List.mem_cons,List.not_mem_nil,or_false] at hx;rcases hx with rfl|rfl|rfl|rfl
  . exact⟨(hv.vs _ m1).1,(hv.vs _ m1).2.1.mono l1,Nat.lt_of_lt_of_le (hv.vs _ m1).2.2 l1⟩
  . exact⟨(hv.vs _ m2).1,(hv.vs _ m2).2.1.mono l2,Nat.lt_of_lt_of_le (hv.vs _ m2).2.2 l2⟩
  . exact⟨(hv.vs _ m3).1,(hv.vs _ m3).2.1.mono l3,Nat.lt_of_lt_of_le (hv.vs _ m3).2.2 l3⟩
  . exact⟨(hv.vs _ m4).1,(hv.vs _ m4).2.1.mono l4,Nat.lt_of_lt_of_le (hv.vs _ m4).2.2 l4⟩)
 have HST:O (stretch (A,B,rx,ry) (qv ts)=rx*(q1 - q2)+ry*(q3 - q4)):=Hi (by
  simp only[stretch]
  rw[qv_at h1,qv_at h2,qv_at h3,qv_at h4])
 obtain⟨vb,vo,rfl,hvb0,D0⟩:=hv.at h1;obtain⟨vb',vo',e',_,D1⟩:=hv.at h2;cases e';obtain⟨vb',vo',e',_,D2⟩:=hv.at h3;cases e';obtain⟨vb',vo',e',_,D3⟩:=hv.at h4;cases e';simp only at D0 D1 D2 D3;have iI:((i:Int)<(bs.length:Int)):=by omega
 obtain⟨X1,hX1⟩:=nm (2*B);obtain⟨X2,hX2⟩:=nm (2*A);obtain⟨Y1,hY1⟩:=nm (2*B+1);obtain⟨Y2,hY2⟩:=nm (2*A+1);rw[hX1] at D0;rw[hX2] at D1;rw[hY1] at D2;rw[hY2] at D3;have i1:(X1:Int)<(ts.length:Int):=by omega
 have i2:(X2:Int)<(ts.length:Int):=by omega
 have i3:(Y1:Int)<(ts.length:Int):=by omega
 have i4:(Y2:Int)<(ts.length:Int):=by omega
 have w1:IntKind.i64.wrap (2*(B:Int))=(X1:Int):=by rw[Qac _ (by omega) (by omega)];omega
 have w2:IntKind.i64.wrap (2*(A:Int))=(X2:Int):=by rw[Qac _ (by omega) (by omega)];omega
 have w3:IntKind.i64.wrap ((X1:Int)+1)=(Y1:Int):=by rw[Qac _ (by omega) (by omega)];omega
 have w4:IntKind.i64.wrap ((X2:Int)+1)=(Y2:Int):=by rw[Qac _ (by omega) (by omega)];omega
 clear hX1 hX2 hY1 hY2;obtain⟨HF,HI⟩:=Ia hf hi;obtain⟨NT,hNT⟩:=nm ts.length;rw[hNT] at i1 i2 i3 i4 ⊢;clear hg hf hi hb e1 e2 hv hl hk h1 h2 h3 h4 m1 m2 m3 m4 l1 l2 l3 l4 hNT;obtain⟨B0,hB0⟩:=nm w.heap.size;obtain⟨V,hV⟩:=nm (w.alloc (.cells #[.slice a1 js.length c1,.slice a2 bs.length c2,.slice a3 hs.length c3] 54));have HBV:=Ua hV;have HSV:=Uf hV hB0;obtain⟨HV,HB0,HW1⟩:=Ib hV hB0 (HWY.o V HBV.o);have hle:w.heap.size<=V.heap.size:=HBV.o.size;clear hV hB0;go_enter func58,ntmps58;go_wp2_with fail;rw[HV.o];simp only[HB0.o];go_fit HW1.o;rintro e X0 ⟨bx,bv,rfl,hbag⟩;have hbVX:=hbag.base
 have hbX:Below w.heap.size w X0:=HBV.o.trans (hbVX.mono HBV.o.size);obtain⟨-,f1,-⟩:=zc (HSV.o.below hbVX HSV.o.lt);obtain⟨bb,bo,rfl,hbb,f2,f3,_⟩:=(HF.o.below hbX).b.bar HI.o;rw[hA] at f2;rw[hB] at f3;obtain⟨X,hX⟩:=nm X0.drew;have hbXX:Below w.heap.size w X:=by rw[<-hX];exact hbX.drew
 have HBX:=Hi hbXX;have HR:O (RBag X X [(bx,rx,8388611),(bv,ry,8388611),(g1,q1,K),(g2,q2,K),(g3,q3,K),(g4,q4,K)]):=Hi (by
  have h1:=RBag.all (L:=[(bx,rx,8388611),(bv,ry,8388611)]) hbag.rebase (HRV.o.below hbX);rw[<-hX]
  exact h1.drew.rebase)
 have hvb:vb<X.heap.size:=by have:=hbXX.size;omega
 have HD0:O (X.cell? ⟨vb,vo+X1,none⟩=some (.pointer (some ⟨g1,0,none⟩))):=Hi (ce hbXX hvb0 D0);have HD1:O (X.cell? ⟨vb,vo+X2,none⟩=some (.pointer (some ⟨g2,0,none⟩))):=Hi (ce hbXX hvb0 D1);have HD2:O (X.cell? ⟨vb,vo+Y1,none⟩=some (.pointer (some ⟨g3,0,none⟩))):=Hi (ce hbXX hvb0 D2);have HD3:O (X.cell? ⟨vb,vo+Y2,none⟩=some (.pointer (some ⟨g4,0,none⟩))):=Hi (ce hbXX hvb0 D3);have HXE:=Hi hX;clear hbag hbVX hbX D0 D1 D2 D3 hA hB hX hbXX;go_wp2_with fail;go_region;rw[HXE.o];clear f1 f2 f3;obtain⟨d0,d1,d2,d3⟩:=Jc HR.o.base hvb HD0.o HD1.o HD2.o HD3.o
 go_wp2_with fail;go_region_held3 (fun v=>v.cell? ⟨vb,vo+X1,none⟩=some (.pointer (some ⟨g1,0,none⟩))/\v.cell? ⟨vb,vo+X2,none⟩=some (.pointer (some ⟨g2,0,none⟩))/\v.cell? ⟨vb,vo+Y1,none⟩=some (.pointer (some ⟨g3,0,none⟩))/\v.cell? ⟨vb,vo+Y2,none⟩=some (.pointer (some ⟨g4,0,none⟩))) ((first|(simp [*];done)|go_keep)) (first
  |
   (go_at_call_of 74 (Value.pointer (some ⟨g1,0,none⟩))
    apply cM;apply RBag.sub (w0:=X);(first|exact HR.o|exact HR.o.drew);(focus(repeat(first|exact mH|apply mT)));(focus(repeat(first|exact mH|apply mT)));omega;rintro e wn ⟨b1,rfl,hbag⟩;clear HR d0 d1 d2 d3;have HR:=Hi hbag;clear hbag;obtain⟨d0,d1,d2,d3⟩:=Jc HR.o.base hvb HD0.o HD1.o HD2.o HD3.o
    skip)
  |
   (go_at_call_of 22 (Value.pointer (some ⟨bx,0,none⟩))
    apply cM;apply RBag.mul (w0:=X);(first|exact HR.o|exact HR.o.drew);(focus(repeat(first|exact mH|apply mT)));(focus(repeat(first|exact mH|apply mT)));omega;rintro e wn ⟨b2,rfl,hbag⟩;clear HR d0 d1 d2 d3;have HR:=Hi hbag;clear hbag;obtain⟨d0,d1,d2,d3⟩:=Jc HR.o.base hvb HD0.o HD1.o HD2.o HD3.o
    skip)
  |
   (go_at_call_of 74 (Value.pointer (some ⟨g3,0,none⟩))
    apply cM;apply RBag.sub (w0:=X);(first|exact HR.o|exact HR.o.drew);(focus(repeat(first|exact mH|apply mT)));(focus(repeat(first|exact mH|apply mT)));omega;rintro e wn ⟨b3,rfl,hbag⟩;clear HR d0 d1 d2 d3;have HR:=Hi hbag;clear hbag;obtain⟨d0,d1,d2,d3⟩:=Jc HR.o.base hvb HD0.o HD1.o HD2.o HD3.o
    skip)
  |
   (go_at_call_of 22 (Value.pointer (some ⟨bv,0,none⟩))
    apply cM;apply RBag.mul (w0:=X);(first|exact HR.o|exact HR.o.drew);(focus(repeat(first|exact mH|apply mT)));(focus(repeat(first|exact mH|apply mT)));omega;rintro e wn ⟨b4,rfl,hbag⟩;clear HR d0 d1 d2 d3;have HR:=Hi hbag;clear hbag;obtain⟨d0,d1,d2,d3⟩:=Jc HR.o.base hvb HD0.o HD1.o HD2.o HD3.o
    skip)
  |
   (go_at_call_of 21 (Value.pointer (some ⟨b2,0,none⟩))
    apply cM;apply RBag.add (w0:=X);(first|exact HR.o|exact HR.o.drew);(focus(repeat(first|exact mH|apply mT)));(focus(repeat(first|exact mH|apply mT)));omega;rintro e wn ⟨b5,rfl,hbag⟩;clear HR d0 d1 d2 d3;have HR:=Hi hbag;clear hbag;obtain⟨d0,d1,d2,d3⟩:=Jc HR.o.base hvb HD0.o HD1.o HD2.o HD3.o
    skip)
  |fail)
 all_goals
  clear d0 d1 d2 d3;go_wp2;go_ret;refine⟨b5,rfl,(by first|exact HR.o|exact HR.o.drew:RBag X _ _).mono HBX.o (fun f hf=>?_)⟩;obtain rfl:=List.mem_singleton.1 hf;rw[HST.o];exact⟨_,List.Mem.head _,by simp only;omega⟩
structure PBlk (w:World) (g:Nat) (ts:List RT):Prop where
 blk:SB w g 40 (ts.map ptrV).toArray
 vs:RVs w ts
theorem PBlk.below{w w':World}{g:Nat}{ts:List RT}(h:PBlk w g ts)(hb:Below w.heap.size w w'):PBlk w' g ts:=⟨h.blk.below hb h.blk.lt,h.vs.below hb⟩
theorem PBlk.cell{w:World}{g i:Nat}{ts:List RT}{t:RT}(h:PBlk w g ts)(hi:ts[i]?=some t):w.cell? ⟨g,i,none⟩=some (.pointer (some ⟨t.1,0,none⟩)):=by
 rw[h.blk.cell];simp[hi,ptrV]
theorem PBlk.row{w:World}{g:Nat}{ts:List RT}(h:PBlk w g ts):PRow w (some ⟨g,0,none⟩) ts:=⟨⟨fun j u hj=>⟨g,0,rfl,h.blk.lt,by rw[Nat.zero_add,h.blk.cell];simpa using hj⟩⟩,h.vs⟩
theorem PBlk.set{w:World}{g i b k:Nat}{q:Rat}{ts:List RT}(h:PBlk w g ts)(hv:RatVal w b q)(hf:Fits q k)(hk:0<k):PBlk (w.setCell ⟨g,i,none⟩ (.pointer (some ⟨b,0,none⟩))) g (ts.set i (b,q,k)):=by
 have ho:Only g w (w.setCell ⟨g,i,none⟩ (.pointer (some ⟨b,0,none⟩))):=(Only.refl g w).setCell _ _;have hp:=Fp.of_only ho h.blk (fun u hu=>Qgd ts u (by simpa using hu));refine⟨?_,fun t ht=>?_⟩
 .
  have:=h.blk.set i (.pointer (some ⟨b,0,none⟩));rw[List.map_set]
  simpa [ptrV] using this
 .
  rcases List.mem_or_eq_of_mem_set ht with ht|rfl
  . exact(h.vs.fp hp) t ht
  . exact⟨hv.fp hp,hf,hk⟩
theorem Qow(n:Nat):madeCells (Value.cells (.pointer none)) n=(List.replicate n (Value.pointer none)).toArray:=by
 have e:Value.cells (.pointer none)=#[.pointer none]:=by rfl
 rw[e];apply Array.ext';rw[toList_madeCells_one]
theorem Qox(n:Nat)(hn:n<=1048576)(w:World):(Instr.makeSlice 92 (.int .i64 n) (.int .i64 n)).run prog w=.ok (.slice (some ⟨w.heap.size,0,.none⟩) n n) (w.alloc (.cells (List.replicate n (Value.pointer none)).toArray 40)):=by
 obtain⟨i,hi,h⟩:=Option.map_eq_some_iff.1 Qju;simp only[Prod.mk.injEq] at h;obtain⟨hz,hs,hb⟩:=h;have:=run_make w 92 40 i _ underlying92 hi hz .i64 .i64 n n (by omega) (by omega) (by rw[hb];omega) (by omega);rw[Int.toNat_natCast,hs,Nat.mul_one,Qow] at this;exact this
theorem Qoy{n k:Nat}{x z:Value}{l:List Value}(hk:k<n)(hl:l.length=k):(l++List.replicate (n - k) z).set k x=(l++ [x])++List.replicate (n - (k+1)) z:=by
 rw[show n - k=(n - (k+1))+1 by omega,List.replicate_succ,List.set_append_right _ _ (by omega),hl,Nat.sub_self,List.set_cons_zero];simp
structure Noughts (w:World) (g n k:Nat) (ts:List RT):Prop where
 blk:SB w g 40 (ts.map ptrV++List.replicate (n - k) (Value.pointer none)).toArray
 vs:RVs w ts
 len:ts.length=k
 zero:∀t,t∈ ts->t.2.1=0/\t.2.2=1
theorem Noughts.below{w w':World}{g n k:Nat}{ts:List RT}(h:Noughts w g n k ts)(hb:Below w.heap.size w w'):Noughts w' g n k ts:=⟨h.blk.below hb h.blk.lt,h.vs.below hb,h.len,h.zero⟩
theorem Noughts.step{w:World}{g n k b:Nat}{ts:List RT}(h:Noughts w g n k ts)(hk:k<n)(hv:RatVal w b 0):Noughts (w.setCell ⟨g,k,none⟩ (.pointer (some ⟨b,0,none⟩))) g n (k+1) (ts++ [(b,0,1)]):=by
 have ho:Only g w (w.setCell ⟨g,k,none⟩ (.pointer (some ⟨b,0,none⟩))):=(Only.refl g w).setCell _ _;have hp:=Fp.of_only ho h.blk (fun u hu=>by
  simp only[List.toList_toArray,List.mem_append] at hu;rcases hu with hu|hu
  . exact Qgd ts u hu
  . obtain⟨_,rfl⟩:=List.mem_replicate.1 hu
    exact⟨_,rfl⟩)
 refine⟨?_,fun t ht=>?_,by simp[h.len],fun t ht=>?_⟩
 .
  have:=h.blk.set k (.pointer (some ⟨b,0,none⟩));rw[List.setIfInBounds_toArray,Qoy hk (by rw[List.length_map];exact h.len)] at this;rw[List.map_append];exact this
 .
  rcases List.mem_append.1 ht with ht|ht
  . exact(h.vs.fp hp) t ht
  . obtain rfl:=List.mem_singleton.1 ht
    exact⟨hv.fp hp,Fits.zero,Nat.one_pos⟩
 .
  rcases List.mem_append.1 ht with ht|ht
  . exact h.zero t ht
  . obtain rfl:=List.mem_singleton.1 ht
    exact⟨rfl,rfl⟩
structure LVal (ls:List L3) (vs:List (Nat × Rat × Rat)):Prop where
 len:vs.length=ls.length
 at_:∀(i:Nat) (l:L3) (p:Nat × Rat × Rat),ls[i]?=some l->vs[i]?=some p->p.1=l.j.toNat/\QOf l.x.data.toList p.2.1/\QOf l.y.data.toList p.2.2/\l.x.size<=1048576/\l.y.size<=1048576
theorem LVal.ex(ls:List L3)(hz:∀l,l∈ ls->l.x.size<=1048576/\l.y.size<=1048576):∃vs,LVal ls vs:=by
 have ex:∀i:Nat,∃p:Nat × Rat × Rat,∀l,ls[i]?=some l->p.1=l.j.toNat/\QOf l.x.data.toList p.2.1/\QOf l.y.data.toList p.2.2/\l.x.size<=1048576/\l.y.size<=1048576:=fun i=>by
  rcases hi:ls[i]? with _|l
  . exact⟨(0,0,0),fun b hb=>by cases hb⟩
  .
   obtain⟨x,hx⟩:=QOf.ex l.x.data.toList;obtain⟨y,hy⟩:=QOf.ex l.y.data.toList;have z:=hz l (mO hi);exact⟨(l.j.toNat,x,y),fun b e=>by cases e;exact⟨rfl,hx,hy,z⟩⟩
 obtain⟨f,hf⟩:=Classical.axiomOfChoice ex;refine⟨(List.range ls.length).map f,by simp,fun i l p hl hp=>?_⟩;have hil:=(gZ hl).1;rw[List.getElem?_map,List.getElem?_range hil] at hp;obtain rfl:=Option.some.inj hp;exact hf i l hl
theorem LVal.loadV{ls:List L3}{vs:List (Nat × Rat × Rat)}(h:LVal ls vs){n:Nat}(hj:∀(i:Nat) (x:L3),ls[i]?=some x->IsJ n x.j):∀(i:Nat) (l:L3) (p:Nat × Rat × Rat),ls[i]?=some l->vs[i]?=some p->LoadV n l p:=fun i l p hl hp=>by
 obtain⟨h1,h2,h3,h4,h5⟩:=h.at_ i l p hl hp;obtain⟨k1,k2⟩:=hj i l hl;exact⟨by rw[h1];omega,by omega,h2,h3,h4,h5⟩
end Go.Proofs.YtjgofdclmcpopaaGreatDoor
