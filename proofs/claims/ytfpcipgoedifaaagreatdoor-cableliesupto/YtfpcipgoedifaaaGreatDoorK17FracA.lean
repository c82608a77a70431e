/- num's built, under, IsZero, Neg, addSigned, reduced. -/
import Derived.Test.YtfpcipgoedifaaaGreatDoorK16NatMany
import Derived.Deep.DeepCutAuto
namespace Go.Proofs.YtfpcipgoedifaaaGreatDoor
open Go.RowKit
set_option linter.unusedVariables false
set_option linter.unusedSimpArgs false
theorem U64.uniq{w:World}{a:Option Addr}{c c':Nat}{l l':List Nat}{n n':Nat}(h:U64 w a c l n)(k:U64 w a c' l' n')(hl:l.length=l'.length):n=n':=by
 have e:l=l':=by
  apply List.ext_getElem hl;intro i h1 h2;obtain⟨b,off,e1,_,d1⟩:=h.row.cell i h1;obtain⟨b',off',e2,_,d2⟩:=k.row.cell i h2;rw[e1] at e2;obtain⟨rfl,rfl⟩:b=b'/\off=off':=by simp at e2;exact e2
  rw[d1] at d2;simp only[Option.some.injEq,Value.int.injEq,true_and] at d2;have d3:l.getD i 0=l'.getD i 0:=by omega
  rw[List.getD_eq_getElem?_getD,List.getD_eq_getElem?_getD,gE h1,gE h2] at d3
  simpa using d3
 rw[<-h.num.eq,<-k.num.eq,e]
open Classical in
theorem Qqd:∃f:World->Value->Nat,∀(w:World) (a:Option Addr) (c:Nat) (l:List Nat) (n:Nat),U64 w a c l n->f w (.slice a l.length c)=n:=by
 have h:∀(w:World) (v:Value),∃n:Nat,∀(a:Option Addr) (c:Nat) (l:List Nat) (m:Nat),v=.slice a l.length c->U64 w a c l m->n=m:=by
  intro w v;by_cases hx:∃n a c l,v=.slice a (List.length l) c/\U64 w a c l n
  ·
   obtain⟨n,a,c,l,rfl,hu⟩:=hx;refine⟨n,fun a' c' l' m e hm=>?_⟩;simp only[Value.slice.injEq] at e;obtain⟨rfl,e2,rfl⟩:=e;exact hu.uniq hm e2
  · exact⟨0,fun a c l m e hm=>absurd ⟨m,a,c,l,e,hm⟩ hx⟩
 have h2:∀p:World × Value,∃n:Nat,∀(a:Option Addr) (c:Nat) (l:List Nat) (m:Nat),p.2=.slice a l.length c->U64 p.1 a c l m->n=m:=fun p=>h p.1 p.2
 obtain⟨f,hf⟩:=Classical.axiomOfChoice h2;exact⟨fun w v=>f (w,v),fun w a c l n hu=>hf (w,.slice a l.length c) a c l n rfl hu⟩
theorem U64.len_mono{w w':World}{a b:Option Addr}{c d:Nat}{l m:List Nat}{x y:Nat}(h:U64 w a c l x)(k:U64 w' b d m y)(hxy:x<=y):l.length<=m.length:=
 h.num.length_le_of_lt (by decide) (Nat.lt_of_le_of_lt hxy (by have:=Qab (B:=18446744073709551616) (by decide) k.num.small;rw[k.num.eq] at this;exact this))
theorem Qqe{l:List Nat}{x:Nat}(h:Num 18446744073709551616 l x)(h1:l.length=1):l.getD 0 0=x:=by
 rw[<-h.eq]
 match l,h1 with
 | [z],_=>simp[val]
structure HoldsC (w:World) (p:Addr) (v:Value) (wl:World):Prop where
 b:Below w.heap.size w wl
 c:wl.cell? p=some v
theorem HoldsC.drew{w:World}{p:Addr}{v:Value}{wl:World}(h:HoldsC w p v wl):HoldsC w p v wl.drew:=⟨h.b.drew,h.c⟩
theorem HoldsC.below{w:World}{p:Addr}{v:Value}{wl w':World}(h:HoldsC w p v wl)(hp:p.block<w.heap.size)(k:Below wl.heap.size wl w'):HoldsC w p v w':=
 ⟨h.b.trans (k.mono h.b.size),(k.cell (Nat.lt_of_lt_of_le hp h.b.size)).trans h.c⟩
theorem Qqf(w:World)(pa:Addr)(v:Value)(hp:pa.block<w.heap.size)(a:Option Addr)(cap d:Nat)(l:List Nat)(x:Nat)(h:U64 w a cap l x)(hd0:0<d)(hd:d<18446744073709551616)(wl:World)(hw:HoldsC w pa v wl):
 Calls Tryz.prog 127 #[.slice a l.length cap,.int .u64 d] wl fun e w'=>e=.returned (.int .u64 ((x % d:Nat):Int))/\HoldsC w pa v w'/\Below wl.heap.size wl w':=by
 refine(Qqp a cap d l x wl (h.below hw.b) hd0 hd).mono ?_;rintro e w' ⟨rfl,hb⟩;exact⟨rfl,hw.below hp hb,hb⟩
theorem Qqg(w:World)(pa:Addr)(v:Value)(hp:pa.block<w.heap.size)(x y:Nat)(hx:x<18446744073709551616)(hy:y<18446744073709551616)(wl:World)(hw:HoldsC w pa v wl):
 Calls Tryz.prog 126 #[.int .u64 x,.int .u64 y] wl fun e w'=>e=.returned (.int .u64 ((Nat.gcd x y:Nat):Int))/\HoldsC w pa v w'/\Below wl.heap.size wl w':=by
 refine(Qqo x y wl hx hy).mono ?_;rintro e w' ⟨rfl,hb⟩;exact⟨rfl,hw.below hp hb,hb⟩
theorem Qqh{w w4:World}{G:Nat}(h:Below w.heap.size w w4)(h0:0<G)(hb:G<18446744073709551616):Nat64 w G (.returned (.slice (some ⟨w4.heap.size,0,none⟩) 1 1)) (w4.alloc (.cells #[.int .u64 G] 123)):=by
 have hB:Blk .u64 123 (w4.alloc (.cells (wordCells .u64 [G]) 123)) w4.heap.size [G]:=Blk.new _ _ _ _;exact⟨⟨some ⟨w4.heap.size,0,none⟩,1,[G],rfl,hB.row 1 (by simp) 1 (by omega),⟨fun d hd=>by simp at hd;omega,.inr (by simp;omega),by simp[val]⟩,by simp⟩,h.alloc h.size _⟩
def Own2(B:Nat)(w:World)(a b:Option Addr)(c d:Nat)(l m:List Nat)(p q:Nat):Prop:=∃g1 g2 C1 C2,a=some ⟨g1,0,none⟩/\b=some ⟨g2,0,none⟩/\ON w g1 c C1 l p/\ON w g2 d C2 m q/\g1≠g2/\B<=g1/\B<=g2
theorem Qi9{w w':World}{a:Option Addr}{cap cap' g x:Nat}{l:List Nat}(h:U64 w a cap l x)(hp:Pre w' g l)(hc:l.length<=cap'):ON w' g cap' l l x:=⟨hp,h.num.small,h.short,List.take_length,h.num,hc⟩
set_option maxRecDepth 100000 in
set_option maxHeartbeats 1000000 in
theorem Qqi(a1 a2:Option Addr)(c1 c2:Nat)(l m:List Nat)(x y:Nat)(w:World)(h1:U64 w a1 c1 l x)(h2:U64 w a2 c2 m y)(hl:l.length<1099511627770)(hm:m.length<1099511627770):
 Calls Tryz.prog 85 #[.slice a1 l.length c1,.slice a2 m.length c2] w (Nat64 w (Nat.gcd x y)):=by
 have HC:=Hi (Qcq a1 a2 c1 c2 l m x y w h1 h2);obtain⟨G,hG⟩:=nm (Nat.gcd x y);rw[hG];have H1:=Hi h1;have H2:=Hi h2;have HG:=Hi hG;clear h1 h2 hG;obtain⟨natAt,hna⟩:=Qqd;have HNA:=Hi hna;clear hna;go_enter Tryz.func85,Tryz.ntmps85;go_wp2_with fail;go_fit HC.out;rintro e w1 ⟨rfl,hb⟩;have HB:=Hi hb;clear hb HC;go_upto_if 11 with fail
 go_cut [0,1] (fun xv yv wr=>∃(p q:Nat) (a b:Option Addr) (c d:Nat) (l m:List Nat),xv=.slice a l.length c/\yv=.slice b m.length d/\q<=p/\l.length<1099511627770/\U64 w a c l p/\U64 w b d m q/\Nat.gcd p q=G/\wr=w1)
 case first=>
  by_cases hlt:x<y
  ·
   have hcmp:cmp3 x y<0:=(Qat x y).2 hlt;go_wp2_with fail;go_meet
   case rel=>exact⟨y,x,a2,a1,c2,c1,m,l,rfl,rfl,by omega,hm,H2.out,H1.out,(Nat.gcd_comm y x).trans HG.out,rfl⟩
  ·
   have hcmp:¬(cmp3 x y<0):=fun h=>by have:=(Qat x y).1 h;omega
   go_wp2_with fail;go_meet
   case rel=>exact⟨x,y,a1,a2,c1,c2,l,m,rfl,rfl,by omega,hl,H1.out,H2.out,HG.out,rfl⟩
 case rest=>
 clear hl hm H1 H2 HG;obtain⟨wx,rfl⟩:∃wx,wx=wc:=⟨wc,rfl⟩;obtain⟨p,q,a,b,c,d,l,m,rfl,rfl,hqp,hlen,hu1,hu2,hg,rfl⟩:=hcut;have HX:=Hi hu1;have HY:=Hi hu2;have HG:=Hi hg;clear hu1 hu2 hg;go_upto_if 16 with fail
 go_cut [0,1] (fun xv yv wr=>∃(p q:Nat) (a b:Option Addr) (c d:Nat) (l m:List Nat),xv=.slice a l.length c/\yv=.slice b m.length d/\q<=p/\l.length<1099511627770/\U64 wr a c l p/\U64 wr b d m q/\Nat.gcd p q=G/\(1<m.length->Own2 w.heap.size wr a b c d l m p q)/\Below w.heap.size w wr)
 case first=>
  by_cases hl1:1<m.length
  ·
   have hli:(1:Int)<(m.length:Int):=by omega
   have hll:m.length<=l.length:=HY.out.len_mono HX.out hqp;have HK1:=Hi (Qfo a c l p wx (HX.out.below HB.out) (by omega));go_wp2_with fail;go_fit HK1.out;rintro e w2 ⟨⟨g1,d1,rfl,hd1,hg1,hp1⟩,hb2⟩;have HK2:=Hi (Qfo b d m q w2 ((HY.out.below HB.out).below hb2) (by omega));have HP1:=Hi hp1;have HB2:=Hi (HB.out.trans (hb2.mono HB.out.size));have hg1':w.heap.size<=g1:=by have:=HB.out.size;omega
   clear hp1 hb2 HK1;go_wp2_with fail;go_fit HK2.out;rintro e w3 ⟨⟨g2,d2,rfl,hd2,hg2,hp2⟩,hb3⟩;have HO1:=Hi (Qi9 HX.out (HP1.out.below hb3 HP1.out.lt) hd1);have HO2:=Hi (Qi9 HY.out hp2 hd2);have hgg:g1<g2:=by have:=HP1.out.lt;omega
   have HB3:=Hi (HB2.out.trans (hb3.mono HB2.out.size));clear hp2 hb3 HK2;go_wp2_with fail;go_meet
   case rel=>exact⟨p,q,some ⟨g1,0,none⟩,some ⟨g2,0,none⟩,d1,d2,l,m,rfl,rfl,hqp,(by omega),HO1.out.u64,HO2.out.u64,HG.out,(fun _=>⟨g1,g2,l,m,rfl,rfl,HO1.out,HO2.out,(by omega),hg1',(by omega)⟩),HB3.out⟩
  ·
   have hli:¬((1:Int)<(m.length:Int)):=by omega
   go_wp2_with fail;go_meet
   case rel=>exact⟨p,q,a,b,c,d,l,m,rfl,rfl,hqp,(by omega),HX.out.below HB.out,HY.out.below HB.out,HG.out,(fun h=>absurd h hl1),HB.out⟩
 case rest=>
 clear hqp hlen HX HY HG HB;obtain⟨wy,rfl⟩:∃wy,wy=wc:=⟨wc,rfl⟩;have HCUT:=Hi hcut;clear hcut;go_wp2_with fail;go_loopw [0,1] (fun xv yv wr=>∃(p q:Nat) (a b:Option Addr) (c d:Nat) (l m:List Nat),xv=.slice a l.length c/\yv=.slice b m.length d/\q<=p/\l.length<1099511627770/\U64 wr a c l p/\U64 wr b d m q/\Nat.gcd p q=G/\(1<m.length->Own2 w.heap.size wr a b c d l m p q)/\Below w.heap.size w wr) (fun xv yv wr=>natAt wr xv+natAt wr yv)
 case atStart=>exact HCUT.out
 case round=>
  obtain⟨p,q,a,b,c,d,l,m,rfl,rfl,hqp,hlen,hu1,hu2,hg,how,hb⟩:=hrel;have HOW:=Hi how;clear how;have hml:=hu2.len_mono hu1 hqp;have HU1:=Hi hu1;have HU2:=Hi hu2;have HGG:=Hi hg;have HBB:=Hi hb;by_cases hm1:m.length<=1
  ·
   have hmi:¬(1:Int)<(m.length:Int):=by omega
   by_cases hq0:q=0
   ·
    have hm0:((m.length:Int) == 0)=true:=by have:=(hu2.num.len_zero (by decide)).1 hq0;simp[this]
    have HQ:=Hi hq0;clear hu1 hu2 hg hb hq0;go_wp2;go_ret;have e1:=HGG.out;rw[HQ.out,Nat.gcd_zero_right] at e1;exact⟨⟨a,c,l,rfl,by rw[<-e1];exact HU1.out⟩,HBB.out⟩
   ·
    have hm0:((m.length:Int) == 0)=false:=by
     rw[beq_eq_false_iff_ne];have:=(hu2.num.len_zero (by decide)).2;omega
    have hm1':m.length=1:=by have:=(hu2.num.len_zero (by decide)).2;omega
    have HO:=Hi (Qcp b d m q wr hu2);by_cases hq1:q=1
    ·
     rw[show decide (q=1)=true by simpa using hq1] at HO;have HQ:=Hi hq1;clear hu1 hu2 hg hb hq0 hq1 hm1';go_wp2_with fail;go_fit HO.out;rintro e w2 ⟨rfl,hw⟩;subst hw;go_wp2;go_ret;have e1:=HGG.out;rw[HQ.out,Nat.gcd_one_right] at e1;exact⟨⟨b,d,m,rfl,by rw[<-e1,<-HQ.out];exact HU2.out⟩,HBB.out⟩
    ·
     rw[show decide (q=1)=false by simpa using hq1] at HO;obtain⟨b',off,rfl,hb1,hc1⟩:=hu2.row.cell 0 (by omega);have hqd:=Qqe hu2.num hm1';rw[hqd,Nat.add_zero] at hc1;have hqb:q<18446744073709551616:=by rw[<-hqd];exact hu2.num.small.getD (by omega) 0
     have HQD:=Hi hqd;have HR:=Hi (Qqf wr ⟨b',off,none⟩ (.int .u64 q) hb1 a c q l p hu1 (by omega) hqb);obtain⟨r,hr⟩:=nm (p % q);rw[hr] at HR;have hrq:r<q:=by rw[<-hr];exact Nat.mod_lt _ (by omega)
     have HRE:=Hi hr;have HQ1:=Hi hq1;have HQ0:=Hi hq0;clear hu1 hu2 hg hb hq1 hqd hr hq0 hm1';go_wp2_with fail;go_fit HO.out;rintro e w2 ⟨rfl,hw⟩;subst hw;go_wp2_with fail;have HI:Hid (HoldsC w2 ⟨b',off,none⟩ (.int .u64 q) w2):=Hi ⟨Below.refl _ _,hc1⟩;have i0:(0:Int)<(m.length:Int):=by have:=(HU2.out.num.len_zero (by decide)).2;have:=HQ0.out;omega
     have hGE:Hid (Nat.gcd q r=G):=Hi (by rw[<-HGG.out,<-HRE.out];exact Qbv p q);have HW:=Hi (Qqg w2 ⟨b',off,none⟩ (.int .u64 q) hb1 q r hqb (by omega));have i0':0<m.length:=by omega
     rw[hGE.out] at HW;go_region_held3 (fun w'=>w'.cell? ⟨b',off,none⟩=some (.int .u64 q)) ((first|(simp [*];done)|exact ce ((Below.refl _ w4).alloc lZ _) z4 k0)) (first
      |(
       go_at_call 127
       first
        |go_fit (HR.out _ HI.out)
        |go_fit (HR.out _ HI.out.drew)
       rintro e w3 ⟨rfl,hi,hb⟩;have k0:=hi.c;have HI3:=Hi hi
       clear hi hb)
      |(
       go_at_call 126
       first
        |go_fit (HW.out _ HI3.out)
        |go_fit (HW.out _ HI3.out.drew)
       rintro e w4 ⟨rfl,hi,hb⟩;have k0:=hi.c;have z4:b'<w4.heap.size:=Nat.lt_of_lt_of_le hb1 hi.b.size;have z5:b'≠w4.heap.size:=Nat.ne_of_lt z4;have HI4:=Hi hi
       clear hi hb))
     all_goals
      go_wp2;go_ret;have hG0:0<G:=by rw[<-hGE.out];exact Nat.gcd_pos_of_pos_left _ (by have:=HQ0.out;omega)
      have hGb:G<18446744073709551616:=by rw[<-hGE.out];exact Nat.lt_of_le_of_lt (Nat.gcd_le_left _ (by have:=HQ0.out;omega)) hqb
      exact Qqh (HBB.out.trans (HI4.out.b.mono HBB.out.size)) hG0 hGb
  ·
   have hmi:(1:Int)<(m.length:Int):=by omega
   have hq0:0<q:=by
    rcases Nat.eq_zero_or_pos q with h0|h0
    · have:=(hu2.num.len_zero (by decide)).1 h0;omega
    · exact h0
   obtain⟨g1,g2,C1,C2,rfl,rfl,ho1,ho2,hn12,hB1,hB2⟩:=HOW.out (by omega);have HO1:=Hi ho1;have HO2:=Hi ho2;have HM:=Hi (Qqq (some ⟨g1,0,none⟩) (some ⟨g2,0,none⟩) c d (l.length - 2) l m p q wr hu1 hu2 hqp (by omega));clear hu1 hu2 hg hb ho1 ho2 HOW;go_wp2_with fail;go_fit HM.out;rintro e w2 ⟨⟨odd,xx,xy,yx,yy,rfl,hS⟩,hb2⟩;have HS:=Hi hS;have HB2:=Hi hb2;have HN:=Hi (Qqr odd xx xy yx yy);clear hS hb2 HM;unfold StepsVal;unfold StepsVal at HN;by_cases hxy0:xy=0
   ·
    rw[show decide (xy=0)=true by simpa using hxy0] at HN;clear hxy0;go_wp2_with fail;go_fit (HN.out _);rintro e w3 ⟨rfl,hb3⟩;have HB3:Hid (Below wr.heap.size wr w3):=Hi ((HB2.out.alloc HB2.out.size _).trans (hb3.mono (HB2.out.alloc HB2.out.size _).size));clear hb3 HN;have HD:=Hi (Qi8 (some ⟨g1,0,none⟩) (some ⟨g2,0,none⟩) c d (m.length - 2) l m p q w3 (HU1.out.below HB3.out) (HU2.out.below HB3.out) hqp (by omega) hlen);go_wp2_with fail;go_fit HD.out;rintro e w4 ⟨⟨aq,cq,lq,gr,cr,Cr,lr,rfl,huq,hor,hgr⟩,hb4⟩;have HB4:Hid (Below wr.heap.size wr w4):=Hi (HB3.out.trans (hb4.mono HB3.out.size));have hur:=hor.u64;have HUR:=Hi hur;have HO2':=Hi (HO2.out.below HB4.out);have HOR:=Hi hor;have hgr2:g2<gr:=by have:=HO2.out.pre.lt;have:=HB3.out.size;omega
    clear hor;have hmod:=Nat.mod_lt p hq0;have HU2':=Hi (HU2.out.below HB4.out);have m1:=HNA.out _ _ _ _ _ HU1.out;have m2:=HNA.out _ _ _ _ _ HU2.out;have m3:=HNA.out _ _ _ _ _ HU2'.out;have m4:=HNA.out _ _ _ _ _ HUR.out;have HM1:=Hi m1;have HM2:=Hi m2;have HM3:=Hi m3;have HM4:=Hi m4;clear huq hur hb4 HD m1 m2 m3 m4;go_wp2;refine⟨⟨q,p % q,some ⟨g2,0,none⟩,some ⟨gr,0,none⟩,d,cr,m,lr,rfl,rfl,by omega,by omega,HU2'.out,HUR.out,(Qbv p q).trans HGG.out,fun _=>⟨g2,gr,C2,Cr,rfl,rfl,HO2'.out,HOR.out,by omega,hB2,by omega⟩,HBB.out.trans (HB4.out.mono HBB.out.size)⟩,?_⟩;rw[HM1.out,HM2.out,HM3.out,HM4.out];omega
   ·
    rw[show decide (xy=0)=false by simpa using hxy0] at HN;obtain⟨X,Y,hL⟩:=HS.out.go (by omega);have HL:=Hi hL;have hless:=hL.less hq0;have hLE:=hL.le;have HLG:=Hi hL.gcd;clear hL hxy0;go_wp2_with fail;go_fit (HN.out _);rintro e w3 ⟨rfl,hb3⟩;have HB3:Hid (Below wr.heap.size wr w3):=Hi ((HB2.out.alloc HB2.out.size _).trans (hb3.mono (HB2.out.alloc HB2.out.size _).size));have HS3:=Hi ((SB.new w2 _ _).below hb3 (by rw[World.size_alloc];omega));clear hb3 HN;have k0:=HS3.out.cell 0;have k1:=HS3.out.cell 1;have k2:=HS3.out.cell 2;have k3:=HS3.out.cell 3;have k4:=HS3.out.cell 4;simp at k0 k1 k2 k3 k4;have HD:=Hi (Qqs odd xx xy yx yy g1 g2 c d C1 C2 l m p q X Y w3 (HO1.out.below HB3.out) (HO2.out.below HB3.out) hn12 hqp HS.out HL.out hq0 w.heap.size hB1 hB2);go_wp2_with fail;go_fit HD.out;rintro e w4 ⟨⟨ga,gb,ca,cb,Ca,Cb,la,lb,rfl,hoa,hob,hgab⟩,hb4⟩
    have HB4:Hid (Below w.heap.size w w4):=Hi ((HBB.out.trans (HB3.out.mono HBB.out.size)).trans hb4);have huq:=hoa.u64;have hur:=hob.u64;have HOA:=Hi hoa;have HOB:=Hi hob;have hgs:ga≠gb/\w.heap.size<=ga/\w.heap.size<=gb:=by omega
    clear hoa hob hgab;have HUQ:=Hi huq;have HUR:=Hi hur;have HM1:=Hi (HNA.out _ _ _ _ _ HU1.out);have HM2:=Hi (HNA.out _ _ _ _ _ HU2.out);have HM3:=Hi (HNA.out _ _ _ _ _ HUQ.out);have HM4:=Hi (HNA.out _ _ _ _ _ HUR.out);have hql:=huq.len_mono HU2.out hless.1;clear huq hur hb4 HD;go_wp2;refine⟨⟨X,Y,some ⟨ga,0,none⟩,some ⟨gb,0,none⟩,ca,cb,la,lb,rfl,rfl,by omega,by omega,HUQ.out,HUR.out,HLG.out.trans HGG.out,fun _=>⟨ga,gb,Ca,Cb,rfl,rfl,HOA.out,HOB.out,hgs.1,hgs.2.1,hgs.2.2⟩,HB4.out⟩,?_⟩;rw[HM1.out,HM2.out,HM3.out,HM4.out];omega
theorem Qh4(neg:Bool):sgn neg 0=0:=by cases neg<;>simp[sgn]
theorem Qop{neg:Bool}{t:Nat}(h:0<t):decide (sgn neg t<0)=neg:=by cases neg<;>simp[sgn]<;>omega
theorem Qbm(x:Int):sgn (decide (x<0)) x.natAbs=x:=by
 unfold sgn;by_cases h:x<0
 · simp[h];omega
 · simp[h];omega
theorem Qb3(p q:Bool)(s t:Nat):sgn (p != q) (s*t)=sgn p s*sgn q t:=by cases p<;>cases q<;>simp[sgn]<;>grind
theorem Qoq(p:Bool)(s:Nat):sgn (!p) s= - sgn p s:=by cases p<;>simp[sgn]
theorem Qh5{neg:Bool}{t d:Nat}(hd:0<d)(hc:Nat.Coprime t d):(mkRat (sgn neg t) d).num=sgn neg t/\(mkRat (sgn neg t) d).den=d:=by
 have e:=Rat.mk_eq_mkRat (sgn neg t) d (by omega) (by rw[Qdn];exact hc);rw[<-e];exact⟨rfl,rfl⟩
theorem Qor(x y:Rat){g h:Nat}(hg:Nat.gcd x.num.natAbs y.den=g)(hh:Nat.gcd y.num.natAbs x.den=h):
 mkRat (sgn (decide (x.num<0) != decide (y.num<0)) (x.num.natAbs / g*(y.num.natAbs / h))) (x.den / h*(y.den / g))=x*y/\Nat.Coprime (x.num.natAbs / g*(y.num.natAbs / h)) (x.den / h*(y.den / g)):=by
 have gp:0<g:=by rw[<-hg];exact Nat.gcd_pos_of_pos_right _ y.den_pos
 have hp:0<h:=by rw[<-hh];exact Nat.gcd_pos_of_pos_right _ x.den_pos
 have d1:g ∣ x.num.natAbs:=hg ▸ Nat.gcd_dvd_left _ _;have d2:g ∣ y.den:=hg ▸ Nat.gcd_dvd_right _ _;have d3:h ∣ y.num.natAbs:=hh ▸ Nat.gcd_dvd_left _ _;have d4:h ∣ x.den:=hh ▸ Nat.gcd_dvd_right _ _;have e1:=Nat.div_mul_cancel d1;have e2:=Nat.div_mul_cancel d2;have e3:=Nat.div_mul_cancel d3;have e4:=Nat.div_mul_cancel d4;constructor
 ·
  rw[<-Qfx,<-Rat.mkRat_mul_right (a:=g*h) (by have:=Nat.mul_pos gp hp;omega)]
  congr 1
  ·
   have k1:(sgn (decide (x.num<0)) (x.num.natAbs / g))*(g:Int)=x.num:=by
    have:=Qb3 (decide (x.num<0)) false (x.num.natAbs / g) g;rw[show sgn false g=(g:Int) from rfl,e1,Bool.bne_false,Qbm] at this;exact this.symm
   have k2:(sgn (decide (y.num<0)) (y.num.natAbs / h))*(h:Int)=y.num:=by
    have:=Qb3 (decide (y.num<0)) false (y.num.natAbs / h) h;rw[show sgn false h=(h:Int) from rfl,e3,Bool.bne_false,Qbm] at this;exact this.symm
   rw[Qb3,<-k1,<-k2,Int.natCast_mul];rw[k1,k2]
   conv=>rhs;rw[<-k1,<-k2]
   grind
  ·
   rw[Int.natAbs_mul,Int.natAbs_natCast,Int.natAbs_natCast]
   conv=>rhs;rw[<-e4,<-e2]
   grind
 ·
  have c1:Nat.Coprime (x.num.natAbs / g) (x.den / h):=Nat.Coprime.coprime_dvd_left (Nat.div_dvd_of_dvd d1) (Nat.Coprime.coprime_dvd_right (Nat.div_dvd_of_dvd d4) x.reduced);have c2:Nat.Coprime (x.num.natAbs / g) (y.den / g):=by have:=Nat.coprime_div_gcd_div_gcd (m:=x.num.natAbs) (n:=y.den) (by omega);rw[hg] at this;exact this
  have c3:Nat.Coprime (y.num.natAbs / h) (x.den / h):=by have:=Nat.coprime_div_gcd_div_gcd (m:=y.num.natAbs) (n:=x.den) (by omega);rw[hh] at this;exact this
  have c4:Nat.Coprime (y.num.natAbs / h) (y.den / g):=Nat.Coprime.coprime_dvd_left (Nat.div_dvd_of_dvd d3) (Nat.Coprime.coprime_dvd_right (Nat.div_dvd_of_dvd d2) y.reduced);exact Nat.Coprime.mul_left (Nat.Coprime.mul_right c1 c2) (Nat.Coprime.mul_right c3 c4)
theorem Qos(x y:Rat){g h t:Nat}{neg:Bool}(hg:Nat.gcd x.den y.den=g)(ht:sgn neg t=x.num*((y.den / g:Nat):Int)+y.num*((x.den / g:Nat):Int))(hh:Nat.gcd t g=h):
 mkRat (sgn neg (t / h)) (x.den / g*(y.den / h))=x+y/\Nat.Coprime (t / h) (x.den / g*(y.den / h)):=by
 have gp:0<g:=by rw[<-hg];exact Nat.gcd_pos_of_pos_right _ y.den_pos
 have hp:0<h:=by rw[<-hh];exact Nat.gcd_pos_of_pos_right _ gp
 have d1:g ∣ x.den:=hg ▸ Nat.gcd_dvd_left _ _;have d2:g ∣ y.den:=hg ▸ Nat.gcd_dvd_right _ _;have d3:h ∣ t:=hh ▸ Nat.gcd_dvd_left _ _;have d4:h ∣ g:=hh ▸ Nat.gcd_dvd_right _ _;have e1:=Nat.div_mul_cancel d1;have e2:=Nat.div_mul_cancel d2;have e3:=Nat.div_mul_cancel d3;have e4:=Nat.div_mul_cancel (Nat.dvd_trans d4 d2);have ta:t=(x.num*((y.den / g:Nat):Int)+y.num*((x.den / g:Nat):Int)).natAbs:=by rw[<-ht,Qdn]
 constructor
 ·
  rw[<-Qd5,<-Rat.mkRat_mul_right (a:=h*g) (by have:=Nat.mul_pos hp gp;omega)]
  congr 1
  ·
   have k1:sgn neg (t / h)*(h:Int)=sgn neg t:=by
    have:=Qb3 neg false (t / h) h;rw[show sgn false h=(h:Int) from rfl,e3,Bool.bne_false] at this;exact this.symm
   rw[Int.natCast_mul,<-Int.mul_assoc,k1,ht]
   conv=>rhs;rw[<-e1,<-e2,Int.natCast_mul,Int.natCast_mul]
   grind
  ·
   rw[Int.natAbs_mul,Int.natAbs_natCast,Int.natAbs_natCast]
   conv=>rhs;rw[<-e1,<-e4]
   grind
 ·
  have aux:=Rat.add.aux x y hg.symm rfl rfl;simp only[] at aux;rw[<-ta,hh] at aux;have hc:=Nat.coprime_div_gcd_div_gcd (m:=t) (n:=x.den / g*y.den) (by rw[<-aux];exact hp);rw[<-aux,Nat.mul_div_assoc _ (Nat.dvd_trans d4 d2)] at hc;exact hc
theorem Qh6{y:Rat}(hy:y≠0):mkRat (sgn (decide (y.num<0)) y.den) y.num.natAbs=y⁻¹/\Nat.Coprime y.den y.num.natAbs/\0<y.num.natAbs:=by
 have h0:y.num≠0:=fun h=>hy (Rat.num_eq_zero.1 h)
 refine⟨?_,Nat.Coprime.symm y.reduced,by omega⟩;rw[Rat.inv_def];by_cases h:y.num<0
 · conv=>rhs;rw[show y.num= -((y.num.natAbs:Nat):Int) by omega,Rat.divInt_neg',Rat.divInt_ofNat]
   simp[sgn,h]
 ·
  conv=>rhs;rw[show y.num=((y.num.natAbs:Nat):Int) by omega]
  rw[Rat.divInt_ofNat];simp[sgn,h]
structure Ent where
 a:Option Addr
 n:Nat
 c:Nat
 x:Nat
 k:Nat
def NumV(w:World)(a:Option Addr)(n c x:Nat):Prop:=∃l,List.length l=n/\U64 w a c l x
theorem NumV.below{w w':World}{a:Option Addr}{n c x:Nat}(h:NumV w a n c x)(hb:Below w.heap.size w w'):NumV w' a n c x:=by
 obtain⟨l,hl,h⟩:=h;exact⟨l,hl,h.below hb⟩
theorem NumV.zero_iff{w:World}{a:Option Addr}{n c x:Nat}(h:NumV w a n c x):x=0↔n=0:=by
 obtain⟨l,rfl,h⟩:=h;exact h.num.len_zero (by decide)
theorem U64.len_bits{w:World}{a:Option Addr}{c:Nat}{l:List Nat}{n k:Nat}(h:U64 w a c l n)(hn:n<2 ^ k):l.length<=k:=by
 apply h.num.length_le_of_lt (by decide);refine Nat.lt_of_lt_of_le hn ?_;exact Nat.pow_le_pow_left (by decide) k
theorem NumV.some{w:World}{a:Option Addr}{n c x:Nat}(h:NumV w a n c x)(h0:0<x):∃b o,a=some ⟨b,o,none⟩:=by
 have hn:n≠0:=fun hc=>by have:=h.zero_iff.2 hc;omega
 obtain⟨l,hl,h⟩:=h;obtain⟨b,o,e,_⟩:=h.row.cell 0 (by omega);exact⟨b,o,e⟩
structure NBag (w0 w:World) (L:List Ent):Prop where
 base:Below w0.heap.size w0 w
 ts:∀t,t∈ L->NumV w t.a t.n t.c t.x/\t.x<2 ^ t.k
theorem NBag.below{w0 w w':World}{L:List Ent}(h:NBag w0 w L)(hb:Below w.heap.size w w'):NBag w0 w' L:=
 ⟨h.base.trans (hb.mono h.base.size),fun t ht=>⟨(h.ts t ht).1.below hb,(h.ts t ht).2⟩⟩
theorem NBag.drew{w0 w:World}{L:List Ent}(h:NBag w0 w L):NBag w0 w.drew L:=h.below bR.drew
theorem NBag.alloc{w0 w:World}{L:List Ent}(h:NBag w0 w L)(o:Obj):NBag w0 (w.alloc o) L:=h.below (bR.alloc lZ _)
theorem NBag.put{w0 w:World}{L:List Ent}{a:Option Addr}{n c x k:Nat}(h:NBag w0 w L)(hv:NumV w a n c x)(hk:x<2 ^ k):NBag w0 w (⟨a,n,c,x,k⟩ :: L):=
 ⟨h.base,fun t ht=>by
   rcases List.mem_cons.1 ht with rfl|ht
   · exact⟨hv,hk⟩
   · exact h.ts t ht⟩
theorem NBag.get{w0 w:World}{L:List Ent}{a:Option Addr}{n c x k:Nat}(h:NBag w0 w L)(hx:⟨a,n,c,x,k⟩∈ L):NumV w a n c x/\x<2 ^ k:=h.ts _ hx
def NNew(w0:World)(L:List Ent)(x k:Nat)(e:Ending)(w':World):Prop:=∃a n c,e=.returned (.slice a n c)/\NBag w0 w' (⟨a,n,c,x,k⟩ :: L)
theorem NBag.new{w0 w w':World}{L:List Ent}{x k:Nat}{e:Ending}(h:NBag w0 w L)(hn:(∃a cap r,e=.returned (.slice a (List.length r) cap)/\U64 w' a cap r x)/\Below w.heap.size w w')(hk:x<2 ^ k):NNew w0 L x k e w':=by
 obtain⟨⟨a,c,r,rfl,hu⟩,hb⟩:=hn;exact⟨a,r.length,c,rfl,(h.below hb).put ⟨r,rfl,hu⟩ hk⟩
theorem NBag.gcd{w0 w:World}{L:List Ent}{a1 a2:Option Addr}{n1 n2 c1 c2 x y j k:Nat}(h:NBag w0 w L)(hx:⟨a1,n1,c1,x,j⟩∈ L)(hy:⟨a2,n2,c2,y,k⟩∈ L)(hj:j+k<274877906000):
 Calls Tryz.prog 85 #[.slice a1 n1 c1,.slice a2 n2 c2] w (NNew w0 L (Nat.gcd x y) (j+k)):=by
 obtain⟨⟨l,rfl,h1⟩,hb1⟩:=h.get hx;obtain⟨⟨m,rfl,h2⟩,hb2⟩:=h.get hy;refine(Qqi a1 a2 c1 c2 l m x y w h1 h2 (by have:=h1.len_bits hb1;omega) (by have:=h2.len_bits hb2;omega)).mono fun e w' hn=>h.new hn ?_
 have e1:2 ^ j<=2 ^ (j+k):=Nat.pow_le_pow_right (by decide) (by omega);have e2:2 ^ k<=2 ^ (j+k):=Nat.pow_le_pow_right (by decide) (by omega);rcases Nat.eq_zero_or_pos x with h0|h0
 · subst h0;rw[Nat.gcd_zero_left];omega
 · have:=Nat.gcd_le_left y h0;omega
theorem NBag.quot{w0 w:World}{L:List Ent}{a1 a2:Option Addr}{n1 n2 c1 c2 x y j k:Nat}(h:NBag w0 w L)(hx:⟨a1,n1,c1,x,j⟩∈ L)(hy:⟨a2,n2,c2,y,k⟩∈ L)(hj:j<274877906000)(h0:0<y):
 Calls Tryz.prog 86 #[.slice a1 n1 c1,.slice a2 n2 c2] w (NNew w0 L (x / y) j):=by
 obtain⟨⟨l,rfl,h1⟩,hb1⟩:=h.get hx;obtain⟨⟨m,rfl,h2⟩,hb2⟩:=h.get hy;refine(Qqn a1 a2 c1 c2 l m x y w h1 h2 h0 (by have:=h1.len_bits hb1;omega)).mono fun e w' hn=>h.new hn ?_
 exact Nat.lt_of_le_of_lt (Nat.div_le_self _ _) hb1
theorem NBag.mul{w0 w:World}{L:List Ent}{a1 a2:Option Addr}{n1 n2 c1 c2 x y j k:Nat}(h:NBag w0 w L)(hx:⟨a1,n1,c1,x,j⟩∈ L)(hy:⟨a2,n2,c2,y,k⟩∈ L)(hj:j+k<274877906000):
 Calls Tryz.prog 88 #[.slice a1 n1 c1,.slice a2 n2 c2] w (NNew w0 L (x*y) (j+k)):=by
 obtain⟨⟨l,rfl,h1⟩,hb1⟩:=h.get hx;obtain⟨⟨m,rfl,h2⟩,hb2⟩:=h.get hy;exact(Qjg a1 a2 c1 c2 l m x y w h1 h2 (by have:=h1.len_bits hb1;have:=h2.len_bits hb2;omega)).mono fun e w' hn=>h.new hn (Qca hb1 hb2)
theorem NBag.add{w0 w:World}{L:List Ent}{a1 a2:Option Addr}{n1 n2 c1 c2 x y j k:Nat}(h:NBag w0 w L)(hx:⟨a1,n1,c1,x,j⟩∈ L)(hy:⟨a2,n2,c2,y,k⟩∈ L)(hj:j+k<274877906000):
 Calls Tryz.prog 128 #[.slice a1 n1 c1,.slice a2 n2 c2] w (NNew w0 L (x+y) (j+k+1)):=by
 obtain⟨⟨l,rfl,h1⟩,hb1⟩:=h.get hx;obtain⟨⟨m,rfl,h2⟩,hb2⟩:=h.get hy;refine(Qp2 a1 a2 c1 c2 l m x y w h1 h2 (by have:=h1.len_bits hb1;omega) (by have:=h2.len_bits hb2;omega)).mono fun e w' hn=>h.new hn ?_
 have e1:2 ^ j<=2 ^ (j+k):=Nat.pow_le_pow_right (by decide) (by omega);have e2:2 ^ k<=2 ^ (j+k):=Nat.pow_le_pow_right (by decide) (by omega);have e3:(2:Nat) ^ (j+k+1)=2 ^ (j+k)*2:=Nat.pow_succ _ _;have e4:x<2 ^ j:=hb1;have e5:y<2 ^ k:=hb2;omega
theorem NBag.sub{w0 w:World}{L:List Ent}{a1 a2:Option Addr}{n1 n2 c1 c2 x y j k:Nat}(h:NBag w0 w L)(hx:⟨a1,n1,c1,x,j⟩∈ L)(hy:⟨a2,n2,c2,y,k⟩∈ L)(hyx:y<=x):
 Calls Tryz.prog 129 #[.slice a1 n1 c1,.slice a2 n2 c2] w (NNew w0 L (x - y) j):=by
 obtain⟨⟨l,rfl,h1⟩,hb1⟩:=h.get hx;obtain⟨⟨m,rfl,h2⟩,hb2⟩:=h.get hy;exact(Qp3 a1 a2 c1 c2 l m x y w h1 h2 hyx).mono fun e w' hn=>h.new hn (Nat.lt_of_le_of_lt (Nat.sub_le _ _) hb1)
theorem NBag.compare{w0 w:World}{L:List Ent}{a1 a2:Option Addr}{n1 n2 c1 c2 x y j k:Nat}(h:NBag w0 w L)(hx:⟨a1,n1,c1,x,j⟩∈ L)(hy:⟨a2,n2,c2,y,k⟩∈ L):
 Calls Tryz.prog 119 #[.slice a1 n1 c1,.slice a2 n2 c2] w (fun e w'=>e=.returned (.int .i64 (cmp3 x y))/\NBag w0 w' L):=by
 obtain⟨⟨l,rfl,h1⟩,hb1⟩:=h.get hx;obtain⟨⟨m,rfl,h2⟩,hb2⟩:=h.get hy;refine(Qcq a1 a2 c1 c2 l m x y w h1 h2).mono ?_;rintro e w' ⟨rfl,hb⟩;exact⟨rfl,h.below hb⟩
def LowIn(w:World)(b:Option Addr)(m d k:Nat):Prop:=(b=none/\m=0/\d=0/\k=1)∨(0<k/\NumV w b m d k)
def Low(w:World)(b:Option Addr)(m d k:Nat):Prop:=(b=none/\m=0/\d=0/\k=1)∨(1<k/\NumV w b m d k)
theorem Low.lowIn{w:World}{b:Option Addr}{m d k:Nat}(h:Low w b m d k):LowIn w b m d k:=by
 rcases h with h|⟨h,h1⟩
 · exact .inl h
 · exact .inr ⟨by omega,h1⟩
theorem Low.below{w w':World}{b:Option Addr}{m d k:Nat}(h:Low w b m d k)(hb:Below w.heap.size w w'):Low w' b m d k:=by
 rcases h with h|⟨h,h1⟩
 · exact .inl h
 · exact .inr ⟨h,h1.below hb⟩
structure FracAt (w:World) (neg:Bool) (a:Option Addr) (n c:Nat) (b:Option Addr) (m d:Nat) (q:Rat):Prop where
 neg:neg=decide (q.num<0)
 top:NumV w a n c q.num.natAbs
 low:Low w b m d q.den
theorem FracAt.below{w w':World}{neg:Bool}{a b:Option Addr}{n c m d:Nat}{q:Rat}(h:FracAt w neg a n c b m d q)(hb:Below w.heap.size w w'):FracAt w' neg a n c b m d q:=⟨h.neg,h.top.below hb,h.low.below hb⟩
def FracV(w:World)(v:Value)(q:Rat):Prop:=∃neg a n c b m d,v=.agg #[.bool neg,.slice a n c,.slice b m d]/\FracAt w neg a n c b m d q
theorem FracV.below{w w':World}{v:Value}{q:Rat}(h:FracV w v q)(hb:Below w.heap.size w w'):FracV w' v q:=by
 obtain⟨neg,a,n,c,b,m,d,e,h⟩:=h;exact⟨neg,a,n,c,b,m,d,e,h.below hb⟩
def FNew(w:World)(q:Rat)(e:Ending)(w':World):Prop:=(∃v,e=.returned v/\FracV w' v q)/\Below w.heap.size w w'
theorem NumV.nil(w:World):NumV w none 0 0 0:=⟨[],rfl,U64.nil w⟩
theorem FracV.zero(w:World):FracV w (.agg #[.bool false,.slice none 0 0,.slice none 0 0]) 0:=
 ⟨false,none,0,0,none,0,0,rfl,by decide,NumV.nil w,.inl ⟨rfl,rfl,rfl,rfl⟩⟩
theorem FracV.mk{w:World}{neg:Bool}{a b:Option Addr}{n c m d t k:Nat}(ht:NumV w a n c t)(hl:Low w b m d k)(hc:Nat.Coprime t k)(h0:0<t):FracV w (.agg #[.bool neg,.slice a n c,.slice b m d]) (mkRat (sgn neg t) k):=by
 have hk:0<k:=by rcases hl with ⟨_,_,_,rfl⟩|⟨h,_⟩<;>omega
 obtain⟨e1,e2⟩:=Qh5 (neg:=neg) hk hc;exact⟨neg,a,n,c,b,m,d,rfl,by rw[e1,Qop h0],by rw[e1,Qdn];exact ht,by rw[e2];exact hl⟩
theorem Qh1{w:World}{a:Option Addr}{n c x:Nat}(h:NumV w a n c x):Calls Tryz.prog 125 #[.slice a n c] w fun e w'=>e=.returned (.bool (decide (x=1)))/\w'=w:=by
 obtain⟨l,rfl,h⟩:=h;exact Qcp a c l x w h
def NoU64(C:Array Value):Prop:=∀(i:Nat) (n:Int),C[i]?≠some (Value.int .u64 n)
theorem Row.only64{w w':World}{a:Option Addr}{cap:Nat}{l:List Nat}{c:Nat}{t:TypeId}{C:Array Value}(h:Row .u64 w a cap l)(ho:Only c w w')(hs:SB w c t C)(hn:NoU64 C):Row .u64 w' a cap l:=by
 refine⟨h.fit,?_,fun i hi=>?_⟩
 ·
  rcases h.shape with h1|⟨b',off,rfl,h2⟩
  · exact .inl h1
  · exact .inr ⟨b',off,rfl,by have:=ho.size;omega⟩
 ·
  obtain⟨b',off,h1,h2,h3⟩:=h.cell i hi;have hne:b'≠c:=by
   rintro rfl;rw[hs.cell] at h3;exact hn _ _ h3
  exact⟨b',off,h1,by have:=ho.size;omega,(World.cell?_of_block (w:=w) (ho.block b' h2 hne)).trans h3⟩
theorem NumV.only{w w':World}{a:Option Addr}{n c x g:Nat}{t:TypeId}{C:Array Value}(h:NumV w a n c x)(ho:Only g w w')(hs:SB w g t C)(hn:NoU64 C):NumV w' a n c x:=by
 obtain⟨l,hl,h⟩:=h;exact⟨l,hl,h.row.only64 ho hs hn,h.num,h.short⟩
theorem FracAt.only{w w':World}{neg:Bool}{a b:Option Addr}{n c m d g:Nat}{q:Rat}{t:TypeId}{C:Array Value}(h:FracAt w neg a n c b m d q)(ho:Only g w w')(hs:SB w g t C)(hn:NoU64 C):FracAt w' neg a n c b m d q:=by
 refine⟨h.neg,h.top.only ho hs hn,?_⟩;rcases h.low with h1|⟨h1,h2⟩
 · exact .inl h1
 · exact .inr ⟨h1,h2.only ho hs hn⟩
theorem FracV.only{w w':World}{v:Value}{g:Nat}{q:Rat}{t:TypeId}{C:Array Value}(h:FracV w v q)(ho:Only g w w')(hs:SB w g t C)(hn:NoU64 C):FracV w' v q:=by
 obtain⟨neg,a,n,c,b,m,d,e,h⟩:=h;exact⟨neg,a,n,c,b,m,d,e,h.only ho hs hn⟩
def zeroFrac:Array Value:=#[.bool false,.slice none 0 0,.slice none 0 0]
theorem Qbg:NoU64 zeroFrac:=by
 intro i n h
 match i with
 |0=>simp[zeroFrac] at h
 |1=>simp[zeroFrac] at h
 |2=>simp[zeroFrac] at h
 |i+3=>simp[zeroFrac] at h
theorem SB.new2(w:World)(t1 t2:TypeId)(C D:Array Value):SB ((w.alloc (.cells C t1)).alloc (.cells D t2)) (w.heap.size+1) t2 D:=by
 have:=SB.new (w.alloc (.cells C t1)) t2 D;rw[World.size_alloc] at this;exact this
theorem SB.new3(w:World)(t1 t2 t3:TypeId)(C D E:Array Value):SB (((w.alloc (.cells C t1)).alloc (.cells D t2)).alloc (.cells E t3)) (w.heap.size+1+1) t3 E:=by
 have:=SB.new ((w.alloc (.cells C t1)).alloc (.cells D t2)) t3 E;rw[World.size_alloc,World.size_alloc] at this;exact this
theorem Below.new2(w:World)(o1 o2:Obj):Below w.heap.size w ((w.alloc o1).alloc o2):=bR.alloc lZ _ |>.alloc (by rw[World.size_alloc];omega) _
theorem Below.new3(w:World)(o1 o2 o3:Obj):Below w.heap.size w (((w.alloc o1).alloc o2).alloc o3):=(Below.new2 w o1 o2).alloc (by rw[World.size_alloc,World.size_alloc];omega) _
theorem Tryz.fracInfo:(Tryz.prog.info? 103).map (·.size)=some 3:=by kernel_rfl
set_option maxHeartbeats 400000 in
theorem Qdk(neg:Bool)(a b:Option Addr)(n c m d t k:Nat)(w:World)(ht:NumV w a n c t)(hl:LowIn w b m d k)(hc:Nat.Coprime t k):
 Calls Tryz.prog 89 #[.bool neg,.slice a n c,.slice b m d] w (FNew w (mkRat (sgn neg t) k)):=by
 have HT:=Hi ht;have HC:=Hi hc;have hz:=ht.zero_iff;have HB:=Hi ((Below.refl w.heap.size w).alloc lZ (.cells #[.bool false,.slice none 0 0,.slice none 0 0] 103));clear ht hc;by_cases h0:t=0
 ·
  have hn:n=0:=hz.1 h0;subst h0 hn;rw[Qh4,Rat.zero_mkRat];clear hl hz;go_enter Tryz.func89,Tryz.ntmps89;go_wp2;refine bodyPost_ret (v:=.agg #[.bool false,.slice none 0 0,.slice none 0 0]) (results_cell_row rfl _ _ (w.heap.size) 103 #[.bool false,.slice none 0 0,.slice none 0 0] (0,0) _ rfl (SB.new w _ _) Tryz.underlying103 rfl Tryz.fracInfo) rfl ?_;exact⟨⟨_,rfl,FracV.zero _⟩,HB.out⟩
 ·
  have hn:((n:Int) == 0)=false:=by rw[beq_eq_false_iff_ne];omega
  have ht0:0<t:=by omega
  rcases hl with ⟨rfl,rfl,rfl,rfl⟩|⟨hk,hl⟩
  ·
   have HO:=Hi (Qh1 (NumV.nil (w.alloc (.cells #[.bool false,.slice none 0 0,.slice none 0 0] 103))));rw[show decide (0=1)=false by decide] at HO;clear hz h0;go_enter Tryz.func89,Tryz.ntmps89;go_wp2_with fail;go_fit HO.out;rintro e w1 ⟨rfl,hw⟩;subst hw;clear HO;go_wp2;refine bodyPost_ret (v:=.agg #[.bool neg,.slice a n c,.slice none 0 0]) (results_cell_row rfl _ _ (w.heap.size) 103 #[.bool neg,.slice a n c,.slice none 0 0] (0,0) _ rfl (SB.new w _ _) Tryz.underlying103 rfl Tryz.fracInfo) rfl ?_;have hb:=(Below.refl w.heap.size w).alloc lZ (.cells #[.bool neg,.slice a n c,.slice none 0 0] 103);exact⟨⟨_,rfl,FracV.mk (HT.out.below hb) (.inl ⟨rfl,rfl,rfl,rfl⟩) HC.out ht0⟩,hb⟩
  ·
   have HO:=Hi (Qh1 (hl.below ((Below.refl w.heap.size w).alloc lZ (.cells #[.bool false,.slice none 0 0,.slice none 0 0] 103))));have HL:=Hi hl;clear hl;by_cases hk1:k=1
   ·
    rw[show decide (k=1)=true by simpa using hk1] at HO;clear hz h0;go_enter Tryz.func89,Tryz.ntmps89;go_wp2_with fail;go_fit HO.out;rintro e w1 ⟨rfl,hw⟩;subst hw;clear HO;go_wp2;refine bodyPost_ret (v:=.agg #[.bool neg,.slice a n c,.slice none 0 0]) (results_cell_row rfl _ _ (w.heap.size) 103 #[.bool neg,.slice a n c,.slice none 0 0] (0,0) _ rfl (SB.new w _ _) Tryz.underlying103 rfl Tryz.fracInfo) rfl ?_;have hb:=(Below.refl w.heap.size w).alloc lZ (.cells #[.bool neg,.slice a n c,.slice none 0 0] 103);exact⟨⟨_,rfl,FracV.mk (HT.out.below hb) (.inl ⟨rfl,rfl,rfl,hk1⟩) HC.out ht0⟩,hb⟩
   ·
    rw[show decide (k=1)=false by simpa using hk1] at HO;have HK:=Hi (show 1<k by omega);clear hz h0 hk1;go_enter Tryz.func89,Tryz.ntmps89;go_wp2_with fail;go_fit HO.out;rintro e w1 ⟨rfl,hw⟩;subst hw;clear HO;go_wp2;refine bodyPost_ret (v:=.agg #[.bool neg,.slice a n c,.slice b m d]) (results_cell_row rfl _ _ (w.heap.size) 103 #[.bool neg,.slice a n c,.slice b m d] (0,0) _ rfl (SB.new w _ _) Tryz.underlying103 rfl Tryz.fracInfo) rfl ?_;have hb:=(Below.refl w.heap.size w).alloc lZ (.cells #[.bool neg,.slice a n c,.slice b m d] 103);exact⟨⟨_,rfl,FracV.mk (HT.out.below hb) (.inr ⟨HK.out,HL.out.below hb⟩) HC.out ht0⟩,hb⟩
set_option maxHeartbeats 400000 in
theorem Qoh(neg:Bool)(a b:Option Addr)(n c m d k kb:Nat)(w0 w:World)(L:List Ent)(hB:NBag w0 w L)(hl:Low w b m d k)(hk:k<2 ^ kb):
 Calls Tryz.prog 84 #[.agg #[.bool neg,.slice a n c,.slice b m d]] w (NNew w0 L k kb):=by
 have hq:∀(w:World) (a:Option Addr) (n c n' c':Nat),(binOp .eql 101 (.slice a n c) (.slice none n' c')).run Tryz.prog w=.ok (.bool a.isNone) w:=fun w a n c n' c'=>Lib.run_eql_slice_nil w _ _ a n c n' c' Tryz.underlying101
 have HB:=Hi hB;have HK:=Hi hk;have HL:=Hi hl;clear hB hk;rcases hl with ⟨rfl,rfl,rfl,rfl⟩|⟨h1,h2⟩
 ·
  go_enter Tryz.func84,Tryz.ntmps84;go_wp2;go_ret;have hB:Blk .u64 123 ((w.alloc (.cells #[.bool neg,.slice a n c,.slice none 0 0] 103)).alloc (.cells (wordCells .u64 [1]) 123)) (w.heap.size+1) [1]:=by
   have:=Blk.new .u64 123 (w.alloc (.cells #[.bool neg,.slice a n c,.slice none 0 0] 103)) [1];rw[World.size_alloc] at this;exact this
  exact⟨_,1,1,rfl,((HB.out.alloc _).alloc _).put ⟨[1],rfl,hB.row 1 (by simp) 1 (by omega),⟨fun d hd=>by simp at hd;omega,.inr (by simp),by simp[val]⟩,by simp⟩ HK.out⟩
 ·
  obtain⟨bb,bo,rfl⟩:=h2.some (by omega);clear h1 h2;go_enter Tryz.func84,Tryz.ntmps84;go_wp2;go_ret;rcases HL.out with ⟨h,_⟩|⟨h1,h2⟩
  · cases h
  · exact⟨_,m,d,rfl,(HB.out.alloc _).put (h2.below (bR.alloc lZ _)) HK.out⟩
set_option maxHeartbeats 400000 in
theorem Qh2(neg:Bool)(a b:Option Addr)(n c m d t:Nat)(w:World)(ht:NumV w a n c t):
 Calls Tryz.prog 79 #[.agg #[.bool neg,.slice a n c,.slice b m d]] w fun e w'=>e=.returned (.bool (decide (t=0)))/\Below w.heap.size w w':=by
 have e:decide (t=0)=((n:Int) == 0):=by
  have:=ht.zero_iff;by_cases h:t=0
  · simp[h,this.1 h]
  · rw[decide_eq_false h];symm;rw[beq_eq_false_iff_ne];omega
 rw[e];clear e ht;go_enter Tryz.func79,Tryz.ntmps79;go_wp2;go_ret;exact⟨rfl,bR.alloc lZ _⟩
set_option maxHeartbeats 400000 in
theorem Qoi(neg:Bool)(a b:Option Addr)(n c m d:Nat)(q:Rat)(w:World)(h:FracAt w neg a n c b m d q):
 Calls Tryz.prog 90 #[.agg #[.bool neg,.slice a n c,.slice b m d]] w (FNew w (-q)):=by
 have e:mkRat (sgn (!neg) q.num.natAbs) q.den= -q:=by
  rw[Qoq,h.neg,Qbm,<-Rat.neg_mkRat,Rat.mkRat_self]
 have HC:=Hi (fun w' hb=>Qdk (!neg) a b n c m d q.num.natAbs q.den w' (h.top.below hb) ((h.low.below hb).lowIn) q.reduced);rw[e] at HC;clear h e;go_enter Tryz.func90,Tryz.ntmps90;have HS:=Hi (SB.new2 w 103 103 #[.bool neg,.slice a n c,.slice b m d] zeroFrac);have HBP:=Hi (Below.new2 w (.cells #[.bool neg,.slice a n c,.slice b m d] 103) (.cells zeroFrac 103));go_wp2_with fail;go_fit (HC.out _ HBP.out);rintro e w9 ⟨⟨v9,rfl,hv⟩,hb⟩;obtain⟨neg9,a9,n9,c9,b9,m9,d9,rfl,hv⟩:=hv;have hs:=HS.out.below hb HS.out.lt;have k0:=hs.cell 0;have k1:=hs.cell 1;have k2:=hs.cell 2;have f0:=hs.free 0;have f1:=hs.free 1;have f2:=hs.free 2;simp[zeroFrac] at k0 k1 k2;have HV:=Hi hv;have HS9:=Hi hs;have HB9:=Hi (HBP.out.trans (hb.mono HBP.out.size));clear hv hs hb;go_wp2
 refine bodyPost_ret (v:=.agg #[.bool neg9,.slice a9 n9 c9,.slice b9 m9 d9]) (results_cell_row rfl _ _ (w.heap.size+1) 103 #[.bool neg9,.slice a9 n9 c9,.slice b9 m9 d9] (0,0) _ rfl (((HS9.out.set 0 _).set 1 _).set 2 _) Tryz.underlying103 rfl Tryz.fracInfo) rfl ?_;have ho:=(((Only.refl (w.heap.size+1) w9).setCell 0 (.bool neg9)).setCell 1 (.slice a9 n9 c9)).setCell 2 (.slice b9 m9 d9);exact⟨⟨_,rfl,neg9,a9,n9,c9,b9,m9,d9,rfl,HV.out.only ho HS9.out Qbg⟩,Only.fresh HB9.out ho (by omega)⟩
end Go.Proofs.YtfpcipgoedifaaaGreatDoor
