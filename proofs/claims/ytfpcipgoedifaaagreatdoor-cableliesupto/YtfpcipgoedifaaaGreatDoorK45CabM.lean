/- package cable: Shape, of a frame and loads in which nothing is wrong. -/
import Derived.Test.YtfpcipgoedifaaaGreatDoorK44CabL
namespace Go.Proofs.YtfpcipgoedifaaaGreatDoor
open Go.RowKit
set_option linter.unusedVariables false
set_option linter.unusedSimpArgs false
theorem GA.onlyS{u u':World}{B G W K S:Nat}{gs:List Nat}{M:Nat->Nat->Rat}{t:TypeId}{C:Array Value}(h:GA u B G W K gs M)(hs:SB u S t C)(hC:∀v,v∈ C.toList->IsSl v)(ho:Only S u u')(h1:70≠t)(h2:103≠t):GA u' B G W K gs M:=by
 have hf:=Fr.of_only ho hs (IsSl.plain hC);refine⟨⟨Below.refl _ _,h.gm.out.only ho (h.gm.out.unlike hs h1),fun r g hr=>?_,h.gm.nd,h.gm.ne,h.gm.lo,h.gm.los⟩,Nat.lt_of_lt_of_le h.hi ho.size⟩;obtain⟨us,k1,k2⟩:=h.gm.row r g hr;exact⟨us,⟨k1.blk.only ho (k1.blk.unlike hs h2),fun t ht=>⟨(k1.ts t ht).1.fr hf,(k1.ts t ht).2⟩⟩,k2⟩
structure ShW (u:World) (n BI G:Nat) (gs:List Nat) (F:Cab.Mx) (ga gl gh ga' gl' gh':Nat) (X LX:Vec) (hx:List Bool) (Y LY:Vec) (hy:List Bool):Prop where
 f:GA u BI G n 402653377 gs F
 xa:∃us,RB u ga n 4194305 X us
 xl:∃us,RB u gl n 171966545 LX us
 xh:SB u gh 4 (boolsV hx).toArray
 ya:∃us,RB u ga' n 4194305 Y us
 yl:∃us,RB u gl' n 171966545 LY us
 yh:SB u gh' 4 (boolsV hy).toArray
section
variable {u u':World} {n BI G ga gl gh ga' gl' gh' S:Nat} {gs:List Nat} {F:Cab.Mx} {X LX Y LY:Vec} {hx hy:List Bool}
theorem RB.exb{g K:Nat}{x:Vec}(h:∃us,RB u g n K x us)(hb:Below u.heap.size u u'):∃us,RB u' g n K x us:=by
 obtain⟨us,h⟩:=h;exact⟨us,h.below hb⟩
theorem ShW.below(h:ShW u n BI G gs F ga gl gh ga' gl' gh' X LX hx Y LY hy)(hb:Below u.heap.size u u'):ShW u' n BI G gs F ga gl gh ga' gl' gh' X LX hx Y LY hy:=
 ⟨h.f.below hb,RB.exb h.xa hb,RB.exb h.xl hb,h.xh.below hb h.xh.lt,RB.exb h.ya hb,RB.exb h.yl hb,h.yh.below hb h.yh.lt⟩
theorem ShW.onlyS{C:Array Value}(h:ShW u n BI G gs F ga gl gh ga' gl' gh' X LX hx Y LY hy)(hs:SB u S 75 C)(hC:∀v,v∈ C.toList->IsSl v)(ho:Only S u u'):ShW u' n BI G gs F ga gl gh ga' gl' gh' X LX hx Y LY hy:=
 ⟨h.f.onlyS hs hC ho (by decide) (by decide),RB.exS h.xa hs hC ho (by decide),RB.exS h.xl hs hC ho (by decide),h.xh.only ho (h.xh.unlike hs (by decide)),RB.exS h.ya hs hC ho (by decide),RB.exS h.yl hs hC ho (by decide),h.yh.only ho (h.yh.unlike hs (by decide))⟩
end
theorem Qcc(n a b c d e f:Nat):∀v,v∈ (#[.slice (some ⟨a,0,none⟩) n n,.slice (some ⟨b,0,none⟩) n n,.slice (some ⟨c,0,none⟩) n n,.slice (some ⟨d,0,none⟩) n n,.slice (some ⟨e,0,none⟩) n n,.slice (some ⟨f,0,none⟩) n n]:Array Value).toList->IsSl v:=fun v hv=>by
 simp only[List.mem_cons,List.not_mem_nil,or_false] at hv;rcases hv with rfl|rfl|rfl|rfl|rfl|rfl<;>exact⟨_,_,_,rfl⟩
theorem Qhc{n BI G e P ga gl gh:Nat}{gs:List Nat}{F:Cab.Mx}{X LX:Vec}{hl:List Bool}{at_:List Nat}{w:World}(hf:GA w BI G n 402653377 gs F)(hgi:gs.length=n)(hx:∃us,RB w ga n 4194305 X us)(hla:∃us,RB w gl n 171966545 LX us)(hh:SB w gh 4 (boolsV hl).toArray)(hhl:hl.length=n)(hn:n<=10)(hat:at_=Giv.frs (frB hl) n)(hP:0<P)(hPe:P<=2 ^ e)(hF:∀i c,i<n->c<n->Wh P e (F i c))(hS:∀i,i<at_.length->Wh P e (Cab.sumsV at_ n F (frB hl) X LX i))(e1:6000000<=e)(e2:e<=16000000)(hxf:∀i,i<n->Fits (X i) (kC e)):
 Calls Tryz.prog 27 #[.agg #[.slice (some ⟨ga,0,none⟩) n n,.slice (some ⟨gl,0,none⟩) n n,.slice (some ⟨gh,0,none⟩) n n],.slice (some ⟨G,0,none⟩) n n] w (SdeSays w n (kW e) (kC e) F (frB hl) X LX):=by
 obtain⟨us,hx⟩:=hx;obtain⟨vs,hla⟩:=hla;refine Qm2 n gh n n n G BI e P 402653377 171966545 (some ⟨ga,0,none⟩) (some ⟨gl,0,none⟩) gs F X LX us vs hl at_ w hx.qrow hx.len hx.val hla.qrow hla.len (fun c t ht=>?_) hh hhl hn hf hgi hat (by omega) hP hPe hF hS e1 e2 hxf;have:=hla.val c t ht;exact⟨this.1,by omega⟩
def LiesU(n:Nat)(F:Cab.Mx)(fr:Nat->Bool)(x ld Z:Vec):Prop:=Cab.Lies n F fr x ld Z/\∀Y,Cab.Lies n F fr x ld Y->∀i,i<n->Y i=Z i
def ShSays(w:World)(n e:Nat)(F:Cab.Mx)(X LX:Vec)(hx:List Bool)(Y LY:Vec)(hy:List Bool)(en:Ending)(w':World):Prop:=
 ((∃c:Int,((c=8/\∀Z,¬Cab.Lies n F (frB hx) X LX Z)∨(c=9/\∃Z Z',Cab.Lies n F (frB hx) X LX Z/\Cab.Lies n F (frB hx) X LX Z'/\∃i,i<n/\Z i≠Z' i))/\en=.returned (.tuple #[.slice none 0 0,.agg #[.int .i64 c,.int .i64 0]]))∨
  (∃c:Int,((c=8/\∀Z,¬Cab.Lies n F (frB hy) Y LY Z)∨(c=9/\∃Z Z',Cab.Lies n F (frB hy) Y LY Z/\Cab.Lies n F (frB hy) Y LY Z'/\∃i,i<n/\Z i≠Z' i))/\en=.returned (.tuple #[.slice none 0 0,.agg #[.int .i64 c,.int .i64 1]]))∨
  ∃(v:Value) (Z Z':Vec),en=.returned (.tuple #[v,.agg #[.int .i64 0,.int .i64 0]])/\SpsF n Z Z' v w'/\LiesU n F (frB hx) X LX Z/\(∀i,i<n->Fits (Z i) (kC e))/\LiesU n F (frB hy) Y LY Z'/\∀i,i<n->Fits (Z' i) (kC e))/\Below w.heap.size w w'
def ShRel(w u:World)(n e BI G S B0 ga gl gh ga' gl' gh':Nat)(p1 p2 p3:Value)(gs:List Nat)(F:Cab.Mx)(X LX:Vec)(hx:List Bool)(Y LY:Vec)(hy:List Bool)(k:Nat):Prop:=
 Below w.heap.size w u/\SB u B0 26 #[p1,p2,p3]/\SB u (B0+1) 31 #[.int .i64 0,.int .i64 0]/\ShW u n BI G gs F ga gl gh ga' gl' gh' X LX hx Y LY hy/\∃g1 g2,SB u S 75 #[.slice (some ⟨g1,0,none⟩) n n,.slice (some ⟨gl,0,none⟩) n n,.slice (some ⟨gh,0,none⟩) n n,.slice (some ⟨g2,0,none⟩) n n,.slice (some ⟨gl',0,none⟩) n n,.slice (some ⟨gh',0,none⟩) n n]/\(k=0->g1=ga)/\(k<=1->g2=ga')/\(1<=k->∃Z,(∃us,RB u g1 n (kW e) Z us)/\LiesU n F (frB hx) X LX Z/\∀i,i<n->Fits (Z i) (kC e))/\(2<=k->∃Z,(∃us,RB u g2 n (kW e) Z us)/\LiesU n F (frB hy) Y LY Z/\∀i,i<n->Fits (Z i) (kC e))
theorem RB.exO{u u':World}{S g n K:Nat}{x:Vec}{us:List FE}{t:TypeId}{C:Array Value}(h:RB u g n K x us)(hs:SB u S t C)(hC:∀v,v∈ C.toList->IsSl v)(ho:Only S u u')(ht:103≠t):∃us,RB u' g n K x us:=RB.exS ⟨us,h⟩ hs hC ho ht
theorem ShRel.one{w u:World}{n e BI G S B0 ga gl gh ga' gl' gh' g:Nat}{p1 p2 p3:Value}{gs:List Nat}{F:Cab.Mx}{X LX:Vec}{hx:List Bool}{Y LY:Vec}{hy:List Bool}{Z:Vec}{us:List FE}(hb:Below w.heap.size w u)(hf:SB u B0 26 #[p1,p2,p3])(hc:SB u (B0+1) 31 #[.int .i64 0,.int .i64 0])(hw:ShW u n BI G gs F ga gl gh ga' gl' gh' X LX hx Y LY hy)
 (hs:SB u S 75 #[.slice (some ⟨ga,0,none⟩) n n,.slice (some ⟨gl,0,none⟩) n n,.slice (some ⟨gh,0,none⟩) n n,.slice (some ⟨ga',0,none⟩) n n,.slice (some ⟨gl',0,none⟩) n n,.slice (some ⟨gh',0,none⟩) n n]) (hS:w.heap.size<=S) (hr:RB u g n (kW e) Z us) (hl:LiesU n F (frB hx) X LX Z) (hz:∀i,i<n->Fits (Z i) (kC e)):
 ShRel w (u.setCell ⟨S,0,none⟩ (.slice (some ⟨g,0,none⟩) n n)) n e BI G S B0 ga gl gh ga' gl' gh' p1 p2 p3 gs F X LX hx Y LY hy 1:=by
 have ho:=(Only.refl S u).setCell 0 (.slice (some ⟨g,0,none⟩) n n);exact⟨hb.setCell (p:=⟨S,0,none⟩) hS _,hf.only ho (hf.unlike hs (by decide)),hc.only ho (hc.unlike hs (by decide)),hw.onlyS hs (Qcc _ _ _ _ _ _ _) ho,g,ga',hs.set 0 _,fun h=>by omega,fun _=>rfl,fun _=>⟨Z,RB.exO hr hs (Qcc _ _ _ _ _ _ _) ho (by decide),hl,hz⟩,fun h=>by omega⟩
theorem ShRel.two{w u:World}{n e BI G S B0 ga gl gh ga' gl' gh' g g1:Nat}{p1 p2 p3:Value}{gs:List Nat}{F:Cab.Mx}{X LX:Vec}{hx:List Bool}{Y LY:Vec}{hy:List Bool}{Z Z':Vec}{us:List FE}(hb:Below w.heap.size w u)(hf:SB u B0 26 #[p1,p2,p3])(hc:SB u (B0+1) 31 #[.int .i64 0,.int .i64 0])(hw:ShW u n BI G gs F ga gl gh ga' gl' gh' X LX hx Y LY hy)
 (hs:SB u S 75 #[.slice (some ⟨g1,0,none⟩) n n,.slice (some ⟨gl,0,none⟩) n n,.slice (some ⟨gh,0,none⟩) n n,.slice (some ⟨ga',0,none⟩) n n,.slice (some ⟨gl',0,none⟩) n n,.slice (some ⟨gh',0,none⟩) n n]) (hS:w.heap.size<=S) (hr1:∃us,RB u g1 n (kW e) Z us) (hl1:LiesU n F (frB hx) X LX Z) (hz1:∀i,i<n->Fits (Z i) (kC e)) (hr:RB u g n (kW e) Z' us) (hl:LiesU n F (frB hy) Y LY Z') (hz:∀i,i<n->Fits (Z' i) (kC e)):
 ShRel w (u.setCell ⟨S,3,none⟩ (.slice (some ⟨g,0,none⟩) n n)) n e BI G S B0 ga gl gh ga' gl' gh' p1 p2 p3 gs F X LX hx Y LY hy 2:=by
 have ho:=(Only.refl S u).setCell 3 (.slice (some ⟨g,0,none⟩) n n);exact⟨hb.setCell (p:=⟨S,3,none⟩) hS _,hf.only ho (hf.unlike hs (by decide)),hc.only ho (hc.unlike hs (by decide)),hw.onlyS hs (Qcc _ _ _ _ _ _ _) ho,g1,g,hs.set 3 _,fun h=>by omega,fun h=>by omega,fun _=>⟨Z,RB.exS hr1 hs (Qcc _ _ _ _ _ _ _) ho (by decide),hl1,hz1⟩,fun _=>⟨Z',RB.exO hr hs (Qcc _ _ _ _ _ _ _) ho (by decide),hl,hz⟩⟩
theorem Qcd{P:Program}{fn:Func}{p u:Tmp}{ty:TypeId}(h:fn.results=#[.tmp u,.cell p ty])(tmps:Array Value)(w:World)(g:Nat)(t:TypeId)(cs:Array Value)(fr:Nat × Nat)(d:TypeDesc)
 (hp:tmps.getD p undef=.pointer (some ⟨g,0,none⟩)) (hg:w.heap[g]?=some (.cells cs t fr))
 (hu:P.underlying ty=some d) (hd:(match d with| .struct _| .array _ _=>true|_=>false)=true) (hi:(P.info? ty).map (·.size)=some cs.size):
 (results fn tmps).run P w=.ok (.tuple #[tmps.getD u undef,.agg cs]) w:=by
 have hp':tmps[p]?.getD undef=.pointer (some ⟨g,0,none⟩):=by simpa using hp
 simp[results,h,hp',asAddr,run_loadVar_row w g t ty cs fr d hg hu hd hi]
theorem SpsF.only{n S:Nat}{X Y:Vec}{v:Value}{u u':World}{C:Array Value}(h:SpsF n X Y v u)(hs:SB u S 31 C)(ho:Only S u u'):SpsF n X Y v u':=by
 obtain⟨g,ss,e,hl,hb,hq⟩:=h;exact⟨g,ss,e,hl,hb.only ho (hb.unlike hs (by decide)),hq⟩
theorem Qhd(n:Nat)(hj hw:Nat->Nat)(a m:Nat):(hdK n hj hw a m).length=n:=by
 simp only[hdK,List.length_map,List.length_range]
set_option maxRecDepth 100000 in
set_option maxHeartbeats 4000000 in
theorem Qhe(a1 a2 a3 aq al:Option Addr)(c1 c2 c3 cq cl P e n:Nat)(js:List S2)(bs:List B6)(hs:List H3)(qs:List ByteArray)(ls:List L3)(xv yv q lx ly:Vec)(A B lj hj hw:Nat->Nat)(w:World)(hg:Glob w)(hf:FrRow w a1 a2 a3 c1 c2 c3 js bs hs)(hz:FrSized js bs hs)(hok:FrameFault js bs hs 0 0)(hv:CabV js bs hs xv yv A B hj hw)(hqr:CRow w aq (textsV qs))(hql:qs.length=bs.length)(hqt:QsT qs q)(hlr:ARow L3.cells w al cl ls)(hlt:LoadT js.length ls lj lx ly)(hll:ls.length<=20)(hn:js.length=n)
 (hP:0<P) (hPe:P<=2 ^ e) (hF:∀i c,i<n->c<n->Wh P e (Cab.barM bs.length q A B i c)) (e1:6000000<=e) (e2:e<=16000000)
 (hSx:∀i,i<(Giv.frs (frB (hdK n hj hw 0 hs.length)) n).length->Wh P e (Cab.sumsV (Giv.frs (frB (hdK n hj hw 0 hs.length)) n) n (Cab.barM bs.length q A B) (frB (hdK n hj hw 0 hs.length)) (cutV xv n) (ldK lj lx ls.length) i))
 (hSy:∀i,i<(Giv.frs (frB (hdK n hj hw 1 hs.length)) n).length->Wh P e (Cab.sumsV (Giv.frs (frB (hdK n hj hw 1 hs.length)) n) n (Cab.barM bs.length q A B) (frB (hdK n hj hw 1 hs.length)) (cutV yv n) (ldK lj ly ls.length) i))
 (hXf:∀i,i<n->Fits (cutV xv n i) (kC e)) (hYf:∀i,i<n->Fits (cutV yv n i) (kC e)):
 Calls Tryz.prog 8 #[.agg #[.slice a1 n c1,.slice a2 bs.length c2,.slice a3 hs.length c3],.slice aq bs.length cq,.slice al ls.length cl] w (ShSays w n e (Cab.barM bs.length q A B) (cutV xv n) (ldK lj lx ls.length) (hdK n hj hw 0 hs.length) (cutV yv n) (ldK lj ly ls.length) (hdK n hj hw 1 hs.length)):=by
 subst hn;obtain⟨n,hn⟩:=nm js.length;obtain⟨B0,hB0⟩:=nm w.heap.size;obtain⟨V,hV⟩:=nm ((w.alloc (.cells #[.slice a1 js.length c1,.slice a2 bs.length c2,.slice a3 hs.length c3] 26)).alloc (.cells #[.int .i64 0,.int .i64 0] 31));have hbv:Below w.heap.size w V:=by rw[<-hV];exact Below.new2 w _ _
 have hS0:SB V B0 26 #[.slice a1 js.length c1,.slice a2 bs.length c2,.slice a3 hs.length c3]:=by rw[<-hV,<-hB0];exact(SB.new w _ _).alloc _
 have hS1:SB V (B0+1) 31 #[.int .i64 0,.int .i64 0]:=by rw[<-hV,<-hB0];exact SB.new2 w _ _ _ _
 have HCK:=Hi (Qg7 a1 a2 a3 aq c1 c2 c3 cq js bs hs V (hg.below hbv) (hf.below hbv) hz hok);have HV:=Hi hv;have HG:=Hi hg;have HF:=Hi hf;have HQ:=Hi hqr;have HQL:=Hi hql;have HQT:=Hi hqt;have HLR:=Hi hlr;have HLT:=Hi hlt;have HLL:=Hi hll;have HP:=Hi (And.intro hP (And.intro hPe (And.intro hF (And.intro e1 e2))));have HSX:=Hi (And.intro hSx hSy);have HXF:=Hi (And.intro hXf hYf);have HBV:=Hi hbv;have HS0:=Hi hS0;have HS1:=Hi hS1;have x0:=hS0.cell 0;have x1:=hS0.cell 1;have x2:=hS0.cell 2;simp only[List.getElem?_toArray,List.getElem?_cons_zero,List.getElem?_cons_succ] at x0 x1 x2;rw[<-hV,<-hB0] at x0 x1 x2;have HVE:=Hi hV;have HB0:=Hi hB0;have HN:=Hi hn;have HLE:Hid (w.heap.size<=B0+1/\B0≠B0+1):=Hi (by omega);clear hg hf hz hok hbv hS0 hS1 hV hB0 hv hqr hql hqt hlr hlt hll hP hPe hF e1 e2 hSx hSy hXf hYf hn;go_enter Tryz.func8,Tryz.ntmps8;go_wp2_with fail;rw[HVE.out,HB0.out];go_fit HCK.out
 rintro en w1 ⟨rfl,hb1⟩;have HB1:=Hi (HBV.out.trans (hb1.mono HBV.out.size));have HS:=Hi (HS0.out.below hb1 HS0.out.lt);have HE:=Hi (HS1.out.below hb1 HS1.out.lt);clear x0 x1 x2 hb1 HCK HVE;obtain⟨w2,hU⟩:∃U,w1.alloc (.cells #[.int .i64 0,.int .i64 0] 31)=U:=⟨_,rfl⟩;have hbU:Below w1.heap.size w1 w2:=by rw[<-hU];exact(Below.refl _ _).alloc lZ _
 have hS':=HS.out.below hbU HS.out.lt;have hE':=HE.out.below hbU HE.out.lt;have x0:=hS'.cell 0;have x1:=hS'.cell 1;have x2:=hS'.cell 2;simp only[List.getElem?_toArray,List.getElem?_cons_zero,List.getElem?_cons_succ] at x0 x1 x2;rw[<-hU] at x0 x1 x2;have HCL:=Hi (Qlk a1 a2 a3 al c1 c2 c3 cl js.length bs.length hs.length ls w2 (HLR.out.below (HB1.out.trans (hbU.mono HB1.out.size))) HV.out.n1 HV.out.n2 HV.out.n3 (by have:=HLL.out;omega));have HB2:=Hi (HB1.out.trans (hbU.mono HB1.out.size));have HS2:=Hi hS';have HE2:=Hi hE';have HUE:=Hi hU;clear hU hbU hS' hE';go_wp2_with fail;rw[HUE.out];go_fit HCL.out;rintro en w3 ⟨c,at_,rfl,hlf,hb3⟩;have hc0:c=0/\at_=0:=by
  rcases hlf with ⟨h,_⟩|⟨_,⟨k,l,hk,_,hj,_⟩|⟨_,h1,h2⟩⟩
  · have:=HLL.out
    omega
  · obtain⟨e1,e2,_⟩:=HLT.out k l hk
    exact absurd (show IsJ js.length l.j from ⟨by omega,by omega⟩) hj
  · exact⟨h1,h2⟩
 obtain⟨rfl,rfl⟩:=hc0;have HB3:=Hi (HB2.out.trans (hb3.mono HB2.out.size));have HS3:=Hi (HS2.out.below hb3 HS2.out.lt);have HE3:=Hi (HE2.out.below hb3 HE2.out.lt);clear x0 x1 x2 hlf hb3 HCL HUE HS HE HS2 HE2 HS0 HS1;obtain⟨w4,hU⟩:∃U,w3.alloc (.cells #[.int .i64 0,.int .i64 0] 31)=U:=⟨_,rfl⟩;have hbU:Below w3.heap.size w3 w4:=by rw[<-hU];exact(Below.refl _ _).alloc lZ _
 have hdr:=hbU.trans ((Below.refl w4.heap.size w4).drew.mono hbU.size);have HS:=Hi (HS3.out.below hdr HS3.out.lt);have HE:=Hi (HE3.out.below hdr HE3.out.lt);have HBU:=Hi (HB3.out.trans (hdr.mono HB3.out.size));have HUE:=Hi hU;clear hU hbU hdr HS3 HE3;go_wp2_with fail;rw[HUE.out];refine RegG.bg 5 (fun j=>match j with|4=>some 10|j=>some (29+j)) ?_;refine RegG.pu (c:=?_) [] (fun w hb=>?_) ?_;rotate_left
 ·
  intro K hK;have hfx:=HS.out.below hb HS.out.lt;obtain⟨d0,d1,d2,-⟩:=zc hfx;clear hfx;go_simp;exact hK
 refine RegG.p0 [] ?_;refine RegG.ca (φ:=RowF bs.length 4194305 q) [1] (RowF.stays _ _ _) (fun w hb=>?_) ?_
 ·
  intro K hK;go_simp;exact Makes.use (Qgy aq cq bs.length 4194305 qs q w (HG.out.below (HBU.out.trans (hb.mono HBU.out.size))) (HQ.out.below (HBU.out.trans (hb.mono HBU.out.size))) (fun i s hi=>HQT.out i s hi) lZ HQL.out (by have:=HV.out.n2;omega)) hK
 refine RegG.ca (φ:=FormF js.length 402653377 (Cab.barM bs.length q A B)) [0,2] (FormF.stays _ _ _) (fun w hb=>?_) ?_
 ·
  intro v2 h2 K hK;go_simp;exact Makes.use (Qha HV.out (HF.out.below (HBU.out.trans (hb.mono HBU.out.size))) h2) hK
 refine RegG.ca (φ:=FormF js.length 402653377 (Cab.barM bs.length q A B)) [3] (FormF.stays _ _ _) (fun w hb=>?_) ?_
 ·
  intro v3 h3 K hK;go_simp;exact hK _ _ bR h3
 refine RegG.fi (fun u hb=>?_);intro v2 _ v3 _ v4 h4;obtain⟨G,BI,gs,rfl,hgl,hga⟩:=h4;have HB5:=Hi (HBU.out.trans (hb.mono HBU.out.size));have HS5:=Hi (HS.out.below hb HS.out.lt);have HE5:=Hi (HE.out.below hb HE.out.lt);have HGA:=Hi hga;have HGL:=Hi hgl;have HSD:=Hi (Qg6 a1 a2 a3 al c1 c2 c3 cl js.length bs.length hs.length js hs ls u (HF.out.below HB5.out).j (HF.out.below HB5.out).h (HLR.out.below HB5.out) rfl rfl HV.out.n1 HV.out.n3 HLL.out (HG.out.below HB5.out) xv yv lx ly lj hj hw HV.out.s HLT.out HV.out.h);have y0:=HS5.out.cell 0;have y1:=HS5.out.cell 1;have y2:=HS5.out.cell 2;simp only[List.getElem?_toArray,List.getElem?_cons_zero,List.getElem?_cons_succ] at y0 y1 y2;clear hgl hga hb HUE HBU HS HE;go_wp2_with fail;go_fit HSD.out;rintro en w6 ⟨ga,gl,gh,ga',gl',gh',rfl,hb6,hxa,hxl,hxh,hya,hyl,hyh⟩;have HB6:=Hi (HB5.out.trans (hb6.mono HB5.out.size))
 have HS6:=Hi (HS5.out.below hb6 HS5.out.lt);have HE6:=Hi (HE5.out.below hb6 HE5.out.lt);have HW6:=Hi (ShW.mk (HGA.out.below hb6) hxa hxl hxh hya hyl hyh);clear y0 y1 y2 hb6 HSD hxa hxl hxh hya hyl hyh HGA HS5 HE5;go_wp2_with fail;obtain⟨S,hS⟩:=nm w6.heap.size;obtain⟨w7,hU⟩:∃U,w6.alloc (.cells #[.slice (some ⟨ga,0,none⟩) js.length js.length,.slice (some ⟨gl,0,none⟩) js.length js.length,.slice (some ⟨gh,0,none⟩) js.length js.length,.slice (some ⟨ga',0,none⟩) js.length js.length,.slice (some ⟨gl',0,none⟩) js.length js.length,.slice (some ⟨gh',0,none⟩) js.length js.length] 75)=U:=⟨_,rfl⟩
 have HR7:Hid (ShRel w w7 js.length e BI G S B0 ga gl gh ga' gl' gh' (.slice a1 js.length c1) (.slice a2 bs.length c2) (.slice a3 hs.length c3) gs (Cab.barM bs.length q A B) (cutV xv js.length) (ldK lj lx ls.length) (hdK js.length hj hw 0 hs.length) (cutV yv js.length) (ldK lj ly ls.length) (hdK js.length hj hw 1 hs.length) 0):=Hi (by
  have hb:Below w6.heap.size w6 w7:=by rw[<-hU];exact(Below.refl _ _).alloc lZ _
  exact⟨HB6.out.trans (hb.mono HB6.out.size),HS6.out.below hb HS6.out.lt,HE6.out.below hb HE6.out.lt,HW6.out.below hb,ga,ga',by rw[<-hU,<-hS];exact SB.new w6 _ _,fun _=>rfl,fun _=>rfl,fun h=>by omega,fun h=>by omega⟩)
 have HUE:=Hi hU;have HSS:Hid (w.heap.size<=S):=Hi (by rw[<-hS];exact HB6.out.size);have HSE:=Hi hS;clear hU hS;rw[HUE.out,HSE.out];go_loopw [36] (fun iv wr=>∃k:Nat,k<=2/\iv=.int .i64 k/\ShRel w wr js.length e BI G S B0 ga gl gh ga' gl' gh' (.slice a1 js.length c1) (.slice a2 bs.length c2) (.slice a3 hs.length c3) gs (Cab.barM bs.length q A B) (cutV xv js.length) (ldK lj lx ls.length) (hdK js.length hj hw 0 hs.length) (cutV yv js.length) (ldK lj ly ls.length) (hdK js.length hj hw 1 hs.length) k) (fun iv _=>2 - (intOf iv).toNat)
 case atStart=>exact⟨0,by omega,rfl,HR7.out⟩
 case round=>
  obtain⟨k,hk,rfl,hb,hs,hf,hw,g1,g2,hz,k1,k2,k3,k4⟩:=hrel;have hways:k=0∨k=1∨k=2:=by omega
  have s0:=hz.cell 0;have s1:=hz.cell 1;have s2:=hz.cell 2;have s3:=hz.cell 3;have s4:=hz.cell 4;have s5:=hz.cell 5;simp only[List.getElem?_toArray,List.getElem?_cons_zero,List.getElem?_cons_succ] at s0 s1 s2 s3 s4 s5;have HB:=Hi hb;have HS:=Hi hs;have HF':=Hi hf;have HW:=Hi hw;have HZ:=Hi hz;have K1:=Hi k1;have K2:=Hi k2;have K3:=Hi k3;have K4:=Hi k4;clear hb hs hf hw hz k1 k2 k3 k4 hk;rcases hways with rfl|rfl|rfl
  ·
   cases K1.out rfl;cases K2.out (by omega);have HSV:=Hi (Qhc HW.out.f HGL.out HW.out.xa HW.out.xl HW.out.xh (Qhd _ _ _ _ _) HV.out.n1 rfl HP.out.1 HP.out.2.1 HP.out.2.2.1 HSX.out.1 HP.out.2.2.2.1 HP.out.2.2.2.2 HXF.out.1);go_wp2_with fail;go_fit HSV.out;rintro en w8 ⟨hsd,hb8⟩;have HB8:=Hi (HB.out.trans (hb8.mono HB.out.size));have HS8:=Hi (HS.out.below hb8 HS.out.lt);have HF8:=Hi (HF'.out.below hb8 HF'.out.lt);have HW8:=Hi (HW.out.below hb8);have hz8:=HZ.out.below hb8 HZ.out.lt;have HZ8:=Hi hz8;have f0:=hz8.free 0;have f1:=HF8.out.free 0;have f2:=HF8.out.free 1;have y0:=hz8.cell 0;have y1:=HF8.out.cell 0;have y2:=HF8.out.cell 1;simp only[List.getElem?_toArray,List.getElem?_cons_zero,List.getElem?_cons_succ] at y0 y1 y2;clear s0 s1 s2 s3 s4 s5 hb8 HSV HB HS HF' HW HZ hz8 K1 K2 K3 K4;rcases hsd with ⟨rfl,hno⟩|⟨rfl,hmany⟩|⟨g,us,Z,rfl,hg,hrb,hl,huni,hfit⟩
   ·
    go_wp2;refine bodyPost_ret (Qcd rfl _ _ (B0+1) 31 #[.int .i64 8,.int .i64 0] (0,0) _ rfl ((HF8.out.set 0 _).set 1 _) Tryz.underlying31 rfl Tryz.faultInfo) rfl ?_;exact⟨.inl ⟨8,.inl ⟨rfl,hno⟩,rfl⟩,(HB8.out.setCell (p:=⟨B0+1,0,none⟩) HLE.out.1 _).setCell (p:=⟨B0+1,1,none⟩) HLE.out.1 _⟩
   ·
    go_wp2;refine bodyPost_ret (Qcd rfl _ _ (B0+1) 31 #[.int .i64 9,.int .i64 0] (0,0) _ rfl ((HF8.out.set 0 _).set 1 _) Tryz.underlying31 rfl Tryz.faultInfo) rfl ?_;exact⟨.inl ⟨9,.inr ⟨rfl,hmany⟩,rfl⟩,(HB8.out.setCell (p:=⟨B0+1,0,none⟩) HLE.out.1 _).setCell (p:=⟨B0+1,1,none⟩) HLE.out.1 _⟩
   ·
    go_wp2_with fail;go_roundw
    case rel=>exact⟨1,by omega,rfl,ShRel.one HB8.out HS8.out HF8.out HW8.out HZ8.out HSS.out hrb ⟨hl,huni⟩ hfit⟩
    case measure=>simp[intOf]
  ·
   cases K2.out (by omega);obtain⟨Z1,hr1,hl1,hf1⟩:=K3.out (by omega);have HSV:=Hi (Qhc HW.out.f HGL.out HW.out.ya HW.out.yl HW.out.yh (Qhd _ _ _ _ _) HV.out.n1 rfl HP.out.1 HP.out.2.1 HP.out.2.2.1 HSX.out.2 HP.out.2.2.2.1 HP.out.2.2.2.2 HXF.out.2);go_wp2_with fail;go_fit HSV.out;rintro en w8 ⟨hsd,hb8⟩;have HB8:=Hi (HB.out.trans (hb8.mono HB.out.size));have HS8:=Hi (HS.out.below hb8 HS.out.lt);have HF8:=Hi (HF'.out.below hb8 HF'.out.lt);have HW8:=Hi (HW.out.below hb8);have hz8:=HZ.out.below hb8 HZ.out.lt;have HZ8:=Hi hz8;have f0:=hz8.free 3;have f1:=HF8.out.free 0;have f2:=HF8.out.free 1;have y0:=hz8.cell 3;have y1:=HF8.out.cell 0;have y2:=HF8.out.cell 1;simp only[List.getElem?_toArray,List.getElem?_cons_zero,List.getElem?_cons_succ] at y0 y1 y2;have hr8:=RB.exb hr1 hb8;clear s0 s1 s2 s3 s4 s5 hb8 HSV HB HS HF' HW HZ hz8 K1 K2 K3 K4 hr1
   rcases hsd with ⟨rfl,hno⟩|⟨rfl,hmany⟩|⟨g,us,Z,rfl,hg,hrb,hl,huni,hfit⟩
   ·
    go_wp2;refine bodyPost_ret (Qcd rfl _ _ (B0+1) 31 #[.int .i64 8,.int .i64 1] (0,0) _ rfl ((HF8.out.set 0 _).set 1 _) Tryz.underlying31 rfl Tryz.faultInfo) rfl ?_;exact⟨.inr (.inl ⟨8,.inl ⟨rfl,hno⟩,rfl⟩),(HB8.out.setCell (p:=⟨B0+1,0,none⟩) HLE.out.1 _).setCell (p:=⟨B0+1,1,none⟩) HLE.out.1 _⟩
   ·
    go_wp2;refine bodyPost_ret (Qcd rfl _ _ (B0+1) 31 #[.int .i64 9,.int .i64 1] (0,0) _ rfl ((HF8.out.set 0 _).set 1 _) Tryz.underlying31 rfl Tryz.faultInfo) rfl ?_;exact⟨.inr (.inl ⟨9,.inr ⟨rfl,hmany⟩,rfl⟩),(HB8.out.setCell (p:=⟨B0+1,0,none⟩) HLE.out.1 _).setCell (p:=⟨B0+1,1,none⟩) HLE.out.1 _⟩
   ·
    go_wp2_with fail;go_roundw
    case rel=>exact⟨2,by omega,rfl,ShRel.two HB8.out HS8.out HF8.out HW8.out HZ8.out HSS.out hr8 hl1 hf1 hrb ⟨hl,huni⟩ hfit⟩
    case measure=>simp[intOf]
  ·
   obtain⟨Z1,⟨us1,hr1⟩,hl1,hf1⟩:=K3.out (by omega);obtain⟨Z2,⟨us2,hr2⟩,hl2,hf2⟩:=K4.out (by omega);have HSP:=Hi (Qm7 js.length (kW e) Z1 Z2 (.slice (some ⟨gl,0,none⟩) js.length js.length) (.slice (some ⟨gh,0,none⟩) js.length js.length) (.slice (some ⟨gl',0,none⟩) js.length js.length) (.slice (some ⟨gh',0,none⟩) js.length js.length) (some ⟨g1,0,none⟩) (some ⟨g2,0,none⟩) js.length js.length wr (HG.out.below HB.out) hr1.rowF hr2.rowF HV.out.n1 (by have:=HP.out.2.2.2.2;simp only[kW,kC];omega));have HL:=Hi (And.intro (And.intro hl1 hf1) (And.intro hl2 hf2));clear hr1 hr2 hl1 hf1 hl2 hf2 K1 K2 K3 K4;go_wp2_with fail;refine Makes.use HSP.out ?_;intro v w8 hb8 hv8;have HB8:=Hi (HB.out.trans (hb8.mono HB.out.size));have HF8:=Hi (HF'.out.below hb8 HF'.out.lt);have HV8:=Hi hv8;have f1:=HF8.out.free 0;have f2:=HF8.out.free 1;have y1:=HF8.out.cell 0;have y2:=HF8.out.cell 1
   simp only[List.getElem?_toArray,List.getElem?_cons_zero,List.getElem?_cons_succ] at y1 y2;clear s0 s1 s2 s3 s4 s5 hb8 hv8 HSP;go_wp2_with fail;refine bodyPost_ret (Qcd rfl _ _ (B0+1) 31 #[.int .i64 0,.int .i64 0] (0,0) _ rfl ((HF8.out.set 0 _).set 1 _) Tryz.underlying31 rfl Tryz.faultInfo) rfl ?_;refine⟨.inr (.inr ⟨v,Z1,Z2,rfl,?_,HL.out.1.1,HL.out.1.2,HL.out.2.1,HL.out.2.2⟩),(HB8.out.setCell (p:=⟨B0+1,0,none⟩) HLE.out.1 _).setCell (p:=⟨B0+1,1,none⟩) HLE.out.1 _⟩;exact HV8.out.only HF8.out (((Only.refl (B0+1) w8).setCell 0 _).setCell 1 _)
end Go.Proofs.YtfpcipgoedifaaaGreatDoor
