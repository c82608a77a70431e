/- num's gcd. -/
import Derived.Test.YtodfmpjhcmapmaaGreatDoorN20NatMany
import Derived.Deep.DeepCutAuto
namespace Go.Proofs.YtodfmpjhcmapmaaGreatDoor
open Go.RowKit
set_option linter.unusedVariables false
set_option linter.unusedSimpArgs false
theorem U64.uniq{w:World}{a:Option Addr}{c c':Nat}{l l':List Nat}{n n':Nat}(h:U64 w a c l n)(k:U64 w a c' l' n')(hl:l.length=l'.length):n=n':=by
 have e:l=l':=by
  apply List.ext_getElem hl;intro i h1 h2;obtain⟨b,off,e1,_,d1⟩:=h.row.cell i h1;obtain⟨b',off',e2,_,d2⟩:=k.row.cell i h2;rw[e1] at e2;obtain⟨rfl,rfl⟩:b=b'∧off=off':=by simp at e2;exact e2
  rw[d1] at d2;simp only[Option.some.injEq,Value.int.injEq,true_and] at d2;have d3:l.getD i 0=l'.getD i 0:=by omega
  rw[List.getD_eq_getElem?_getD,List.getD_eq_getElem?_getD,List.getElem?_eq_getElem h1,List.getElem?_eq_getElem h2] at d3
  simpa using d3
 rw[←h.num.eq,←k.num.eq,e]
open Classical in
theorem Qmd:∃f:World→Value→Nat,∀(w:World) (a:Option Addr) (c:Nat) (l:List Nat) (n:Nat),U64 w a c l n→f w (.slice a l.length c)=n:=by
 have h:∀(w:World) (v:Value),∃n:Nat,∀(a:Option Addr) (c:Nat) (l:List Nat) (m:Nat),v=.slice a l.length c→U64 w a c l m→n=m:=by
  intro w v;by_cases hx:∃n a c l,v=.slice a (List.length l) c∧U64 w a c l n
  ·
   obtain⟨n,a,c,l,rfl,hu⟩:=hx;refine⟨n,fun a' c' l' m e hm=>?_⟩;simp only[Value.slice.injEq] at e;obtain⟨rfl,e2,rfl⟩:=e;exact hu.uniq hm e2
  · exact⟨0,fun a c l m e hm=>absurd ⟨m,a,c,l,e,hm⟩ hx⟩
 have h2:∀p:World × Value,∃n:Nat,∀(a:Option Addr) (c:Nat) (l:List Nat) (m:Nat),p.2=.slice a l.length c→U64 p.1 a c l m→n=m:=fun p=>h p.1 p.2
 obtain⟨f,hf⟩:=Classical.axiomOfChoice h2;exact⟨fun w v=>f (w,v),fun w a c l n hu=>hf (w,.slice a l.length c) a c l n rfl hu⟩
theorem U64.len_mono{w w':World}{a b:Option Addr}{c d:Nat}{l m:List Nat}{x y:Nat}(h:U64 w a c l x)(k:U64 w' b d m y)(hxy:x≤y):l.length≤m.length:=
 h.num.length_le_of_lt (by decide) (Nat.lt_of_le_of_lt hxy (by have:=Qaa (B:=18446744073709551616) (by decide) k.num.small;rw[k.num.eq] at this;exact this))
theorem Qme{l:List Nat}{x:Nat}(h:Num 18446744073709551616 l x)(h1:l.length=1):l.getD 0 0=x:=by
 rw[←h.eq]
 match l,h1 with
 | [z],_=>simp[val]
structure HoldsC (w:World) (p:Addr) (v:Value) (wl:World):Prop where
 b:Below w.heap.size w wl
 c:wl.cell? p=some v
theorem HoldsC.drew{w:World}{p:Addr}{v:Value}{wl:World}(h:HoldsC w p v wl):HoldsC w p v wl.drew:=⟨h.b.drew,h.c⟩
theorem HoldsC.below{w:World}{p:Addr}{v:Value}{wl w':World}(h:HoldsC w p v wl)(hp:p.block<w.heap.size)(k:Below wl.heap.size wl w'):HoldsC w p v w':=
 ⟨h.b.trans (k.mono h.b.size),(k.cell (Nat.lt_of_lt_of_le hp h.b.size)).trans h.c⟩
theorem Qmf(w:World)(pa:Addr)(v:Value)(hp:pa.block<w.heap.size)(a:Option Addr)(cap d:Nat)(l:List Nat)(x:Nat)(h:U64 w a cap l x)(hd0:0<d)(hd:d<18446744073709551616)(wl:World)(hw:HoldsC w pa v wl):
 Calls Tryz.prog 160 #[.slice a l.length cap,.int .u64 d] wl fun e w'=>e=.returned (.int .u64 ((x % d:Nat):Int))∧HoldsC w pa v w'∧Below wl.heap.size wl w':=by
 refine(Qmp a cap d l x wl (h.below hw.b) hd0 hd).mono ?_;rintro e w' ⟨rfl,hb⟩;exact⟨rfl,hw.below hp hb,hb⟩
theorem Qmg(w:World)(pa:Addr)(v:Value)(hp:pa.block<w.heap.size)(x y:Nat)(hx:x<18446744073709551616)(hy:y<18446744073709551616)(wl:World)(hw:HoldsC w pa v wl):
 Calls Tryz.prog 159 #[.int .u64 x,.int .u64 y] wl fun e w'=>e=.returned (.int .u64 ((Nat.gcd x y:Nat):Int))∧HoldsC w pa v w'∧Below wl.heap.size wl w':=by
 refine(Qmo x y wl hx hy).mono ?_;rintro e w' ⟨rfl,hb⟩;exact⟨rfl,hw.below hp hb,hb⟩
theorem Qmh{w w4:World}{G:Nat}(h:Below w.heap.size w w4)(h0:0<G)(hb:G<18446744073709551616):Nat64 w G (.returned (.slice (some ⟨w4.heap.size,0,none⟩) 1 1)) (w4.alloc (.cells #[.int .u64 G] 81)):=by
 have hB:Blk .u64 81 (w4.alloc (.cells (wordCells .u64 [G]) 81)) w4.heap.size [G]:=Blk.new _ _ _ _;exact⟨⟨some ⟨w4.heap.size,0,none⟩,1,[G],rfl,hB.row 1 (by simp) 1 (by omega),⟨fun d hd=>by simp at hd;omega,.inr (by simp;omega),by simp[val]⟩,by simp⟩,h.alloc h.size _⟩
def Own2(B:Nat)(w:World)(a b:Option Addr)(c d:Nat)(l m:List Nat)(p q:Nat):Prop:=∃g1 g2 C1 C2,a=some ⟨g1,0,none⟩∧b=some ⟨g2,0,none⟩∧ON w g1 c C1 l p∧ON w g2 d C2 m q∧g1≠g2∧B≤g1∧B≤g2
theorem Qg2{w w':World}{a:Option Addr}{cap cap' g x:Nat}{l:List Nat}(h:U64 w a cap l x)(hp:Pre w' g l)(hc:l.length≤cap'):ON w' g cap' l l x:=⟨hp,h.num.small,h.short,List.take_length,h.num,hc⟩
set_option maxRecDepth 100000 in
set_option maxHeartbeats 1000000 in
theorem Qmi(a1 a2:Option Addr)(c1 c2:Nat)(l m:List Nat)(x y:Nat)(w:World)(h1:U64 w a1 c1 l x)(h2:U64 w a2 c2 m y)(hl:l.length<1099511627770)(hm:m.length<1099511627770):
 Calls Tryz.prog 117 #[.slice a1 l.length c1,.slice a2 m.length c2] w (Nat64 w (Nat.gcd x y)):=by
 have HC:=Hi (Qcn a1 a2 c1 c2 l m x y w h1 h2);obtain⟨G,hG⟩:∃G,Nat.gcd x y=G:=⟨_,rfl⟩;rw[hG];have H1:=Hi h1;have H2:=Hi h2;have HG:=Hi hG;clear h1 h2 hG;obtain⟨natAt,hna⟩:=Qmd;have HNA:=Hi hna;clear hna;go_enter Tryz.func117,Tryz.ntmps117;go_wp2_with fail;go_fit HC.out;rintro e w1 ⟨rfl,hb⟩;have HB:=Hi hb;clear hb HC;go_upto_if 11 with fail
 go_cut [0,1] (fun xv yv wr=>∃(p q:Nat) (a b:Option Addr) (c d:Nat) (l m:List Nat),xv=.slice a l.length c∧yv=.slice b m.length d∧q≤p∧l.length<1099511627770∧U64 w a c l p∧U64 w b d m q∧Nat.gcd p q=G∧wr=w1)
 case first=>
  by_cases hlt:x<y
  ·
   have hcmp:cmp3 x y<0:=(Qar x y).2 hlt;go_wp2_with fail;go_meet
   case rel=>exact⟨y,x,a2,a1,c2,c1,m,l,rfl,rfl,by omega,hm,H2.out,H1.out,(Nat.gcd_comm y x).trans HG.out,rfl⟩
  ·
   have hcmp:¬(cmp3 x y<0):=fun h=>by have:=(Qar x y).1 h;omega
   go_wp2_with fail;go_meet
   case rel=>exact⟨x,y,a1,a2,c1,c2,l,m,rfl,rfl,by omega,hl,H1.out,H2.out,HG.out,rfl⟩
 case rest=>
 clear hl hm H1 H2 HG;obtain⟨wx,rfl⟩:∃wx,wx=wc:=⟨wc,rfl⟩;obtain⟨p,q,a,b,c,d,l,m,rfl,rfl,hqp,hlen,hu1,hu2,hg,rfl⟩:=hcut;have HX:=Hi hu1;have HY:=Hi hu2;have HG:=Hi hg;clear hu1 hu2 hg;go_upto_if 16 with fail
 go_cut [0,1] (fun xv yv wr=>∃(p q:Nat) (a b:Option Addr) (c d:Nat) (l m:List Nat),xv=.slice a l.length c∧yv=.slice b m.length d∧q≤p∧l.length<1099511627770∧U64 wr a c l p∧U64 wr b d m q∧Nat.gcd p q=G∧(1<m.length→Own2 w.heap.size wr a b c d l m p q)∧Below w.heap.size w wr)
 case first=>
  by_cases hl1:1<m.length
  ·
   have hli:(1:Int)<(m.length:Int):=by omega
   have hll:m.length≤l.length:=HY.out.len_mono HX.out hqp;have HK1:=Hi (Qej a c l p wx (HX.out.below HB.out) (by omega));go_wp2_with fail;go_fit HK1.out;rintro e w2 ⟨⟨g1,d1,rfl,hd1,hg1,hp1⟩,hb2⟩;have HK2:=Hi (Qej b d m q w2 ((HY.out.below HB.out).below hb2) (by omega));have HP1:=Hi hp1;have HB2:=Hi (HB.out.trans (hb2.mono HB.out.size));have hg1':w.heap.size≤g1:=by have:=HB.out.size;omega
   clear hp1 hb2 HK1;go_wp2_with fail;go_fit HK2.out;rintro e w3 ⟨⟨g2,d2,rfl,hd2,hg2,hp2⟩,hb3⟩;have HO1:=Hi (Qg2 HX.out (HP1.out.below hb3 HP1.out.lt) hd1);have HO2:=Hi (Qg2 HY.out hp2 hd2);have hgg:g1<g2:=by have:=HP1.out.lt;omega
   have HB3:=Hi (HB2.out.trans (hb3.mono HB2.out.size));clear hp2 hb3 HK2;go_wp2_with fail;go_meet
   case rel=>exact⟨p,q,some ⟨g1,0,none⟩,some ⟨g2,0,none⟩,d1,d2,l,m,rfl,rfl,hqp,(by omega),HO1.out.u64,HO2.out.u64,HG.out,(fun _=>⟨g1,g2,l,m,rfl,rfl,HO1.out,HO2.out,(by omega),hg1',(by omega)⟩),HB3.out⟩
  ·
   have hli:¬((1:Int)<(m.length:Int)):=by omega
   go_wp2_with fail;go_meet
   case rel=>exact⟨p,q,a,b,c,d,l,m,rfl,rfl,hqp,(by omega),HX.out.below HB.out,HY.out.below HB.out,HG.out,(fun h=>absurd h hl1),HB.out⟩
 case rest=>
 clear hqp hlen HX HY HG HB;obtain⟨wy,rfl⟩:∃wy,wy=wc:=⟨wc,rfl⟩;have HCUT:=Hi hcut;clear hcut;go_wp2_with fail;go_loopw [0,1] (fun xv yv wr=>∃(p q:Nat) (a b:Option Addr) (c d:Nat) (l m:List Nat),xv=.slice a l.length c∧yv=.slice b m.length d∧q≤p∧l.length<1099511627770∧U64 wr a c l p∧U64 wr b d m q∧Nat.gcd p q=G∧(1<m.length→Own2 w.heap.size wr a b c d l m p q)∧Below w.heap.size w wr) (fun xv yv wr=>natAt wr xv+natAt wr yv)
 case atStart=>exact HCUT.out
 case round=>
  obtain⟨p,q,a,b,c,d,l,m,rfl,rfl,hqp,hlen,hu1,hu2,hg,how,hb⟩:=hrel;have HOW:=Hi how;clear how;have hml:=hu2.len_mono hu1 hqp;have HU1:=Hi hu1;have HU2:=Hi hu2;have HGG:=Hi hg;have HBB:=Hi hb;by_cases hm1:m.length≤1
  ·
   have hmi:¬(1:Int)<(m.length:Int):=by omega
   by_cases hq0:q=0
   ·
    have hm0:((m.length:Int) == 0)=true:=by have:=(hu2.num.len_zero (by decide)).1 hq0;simp[this]
    have HQ:=Hi hq0;clear hu1 hu2 hg hb hq0;go_wp2;go_ret;have e1:=HGG.out;rw[HQ.out,Nat.gcd_zero_right] at e1;exact⟨⟨a,c,l,rfl,by rw[←e1];exact HU1.out⟩,HBB.out⟩
   ·
    have hm0:((m.length:Int) == 0)=false:=by
     rw[beq_eq_false_iff_ne];have:=(hu2.num.len_zero (by decide)).2;omega
    have hm1':m.length=1:=by have:=(hu2.num.len_zero (by decide)).2;omega
    have HO:=Hi (Qcm b d m q wr hu2);by_cases hq1:q=1
    ·
     rw[show decide (q=1)=true by simpa using hq1] at HO;have HQ:=Hi hq1;clear hu1 hu2 hg hb hq0 hq1 hm1';go_wp2_with fail;go_fit HO.out;rintro e w2 ⟨rfl,hw⟩;subst hw;go_wp2;go_ret;have e1:=HGG.out;rw[HQ.out,Nat.gcd_one_right] at e1;exact⟨⟨b,d,m,rfl,by rw[←e1,←HQ.out];exact HU2.out⟩,HBB.out⟩
    ·
     rw[show decide (q=1)=false by simpa using hq1] at HO;obtain⟨b',off,rfl,hb1,hc1⟩:=hu2.row.cell 0 (by omega);have hqd:=Qme hu2.num hm1';rw[hqd,Nat.add_zero] at hc1;have hqb:q<18446744073709551616:=by rw[←hqd];exact hu2.num.small.getD (by omega) 0
     have HQD:=Hi hqd;have HR:=Hi (Qmf wr ⟨b',off,none⟩ (.int .u64 q) hb1 a c q l p hu1 (by omega) hqb);obtain⟨r,hr⟩:∃r,p % q=r:=⟨_,rfl⟩;rw[hr] at HR;have hrq:r<q:=by rw[←hr];exact Nat.mod_lt _ (by omega)
     have HRE:=Hi hr;have HQ1:=Hi hq1;have HQ0:=Hi hq0;clear hu1 hu2 hg hb hq1 hqd hr hq0 hm1';go_wp2_with fail;go_fit HO.out;rintro e w2 ⟨rfl,hw⟩;subst hw;go_wp2_with fail;have HI:Hid (HoldsC w2 ⟨b',off,none⟩ (.int .u64 q) w2):=Hi ⟨Below.refl _ _,hc1⟩;have i0:(0:Int)<(m.length:Int):=by have:=(HU2.out.num.len_zero (by decide)).2;have:=HQ0.out;omega
     have hGE:Hid (Nat.gcd q r=G):=Hi (by rw[←HGG.out,←HRE.out];exact Qbs p q);have HW:=Hi (Qmg w2 ⟨b',off,none⟩ (.int .u64 q) hb1 q r hqb (by omega));have i0':0<m.length:=by omega
     rw[hGE.out] at HW;go_region_held3 (fun w'=>w'.cell? ⟨b',off,none⟩=some (.int .u64 q)) ((first|(simp [*];done)|exact(((Below.refl _ w4).alloc (Nat.le_refl _) _).cell (p:=⟨b',off,none⟩) z4).trans k0)) (first
      |(
       go_at_call 160
       first
        |go_fit (HR.out _ HI.out)
        |go_fit (HR.out _ HI.out.drew)
       rintro e w3 ⟨rfl,hi,hb⟩;have k0:=hi.c;have HI3:=Hi hi
       clear hi hb)
      |(
       go_at_call 159
       first
        |go_fit (HW.out _ HI3.out)
        |go_fit (HW.out _ HI3.out.drew)
       rintro e w4 ⟨rfl,hi,hb⟩;have k0:=hi.c;have z4:b'<w4.heap.size:=Nat.lt_of_lt_of_le hb1 hi.b.size;have z5:b'≠w4.heap.size:=Nat.ne_of_lt z4;have HI4:=Hi hi
       clear hi hb))
     all_goals
      go_wp2;go_ret;have hG0:0<G:=by rw[←hGE.out];exact Nat.gcd_pos_of_pos_left _ (by have:=HQ0.out;omega)
      have hGb:G<18446744073709551616:=by rw[←hGE.out];exact Nat.lt_of_le_of_lt (Nat.gcd_le_left _ (by have:=HQ0.out;omega)) hqb
      exact Qmh (HBB.out.trans (HI4.out.b.mono HBB.out.size)) hG0 hGb
  ·
   have hmi:(1:Int)<(m.length:Int):=by omega
   have hq0:0<q:=by
    rcases Nat.eq_zero_or_pos q with h0|h0
    · have:=(hu2.num.len_zero (by decide)).1 h0;omega
    · exact h0
   obtain⟨g1,g2,C1,C2,rfl,rfl,ho1,ho2,hn12,hB1,hB2⟩:=HOW.out (by omega);have HO1:=Hi ho1;have HO2:=Hi ho2;have HM:=Hi (Qmq (some ⟨g1,0,none⟩) (some ⟨g2,0,none⟩) c d (l.length - 2) l m p q wr hu1 hu2 hqp (by omega));clear hu1 hu2 hg hb ho1 ho2 HOW;go_wp2_with fail;go_fit HM.out;rintro e w2 ⟨⟨odd,xx,xy,yx,yy,rfl,hS⟩,hb2⟩;have HS:=Hi hS;have HB2:=Hi hb2;have HN:=Hi (Qmr odd xx xy yx yy);clear hS hb2 HM;unfold StepsVal;unfold StepsVal at HN;by_cases hxy0:xy=0
   ·
    rw[show decide (xy=0)=true by simpa using hxy0] at HN;clear hxy0;go_wp2_with fail;go_fit (HN.out _);rintro e w3 ⟨rfl,hb3⟩;have HB3:Hid (Below wr.heap.size wr w3):=Hi ((HB2.out.alloc HB2.out.size _).trans (hb3.mono (HB2.out.alloc HB2.out.size _).size));clear hb3 HN;have HD:=Hi (Qg1 (some ⟨g1,0,none⟩) (some ⟨g2,0,none⟩) c d (m.length - 2) l m p q w3 (HU1.out.below HB3.out) (HU2.out.below HB3.out) hqp (by omega) hlen);go_wp2_with fail;go_fit HD.out;rintro e w4 ⟨⟨aq,cq,lq,gr,cr,Cr,lr,rfl,huq,hor,hgr⟩,hb4⟩;have HB4:Hid (Below wr.heap.size wr w4):=Hi (HB3.out.trans (hb4.mono HB3.out.size));have hur:=hor.u64;have HUR:=Hi hur;have HO2':=Hi (HO2.out.below HB4.out);have HOR:=Hi hor;have hgr2:g2<gr:=by have:=HO2.out.pre.lt;have:=HB3.out.size;omega
    clear hor;have hmod:=Nat.mod_lt p hq0;have HU2':=Hi (HU2.out.below HB4.out);have m1:=HNA.out _ _ _ _ _ HU1.out;have m2:=HNA.out _ _ _ _ _ HU2.out;have m3:=HNA.out _ _ _ _ _ HU2'.out;have m4:=HNA.out _ _ _ _ _ HUR.out;have HM1:=Hi m1;have HM2:=Hi m2;have HM3:=Hi m3;have HM4:=Hi m4;clear huq hur hb4 HD m1 m2 m3 m4;go_wp2;refine⟨⟨q,p % q,some ⟨g2,0,none⟩,some ⟨gr,0,none⟩,d,cr,m,lr,rfl,rfl,by omega,by omega,HU2'.out,HUR.out,(Qbs p q).trans HGG.out,fun _=>⟨g2,gr,C2,Cr,rfl,rfl,HO2'.out,HOR.out,by omega,hB2,by omega⟩,HBB.out.trans (HB4.out.mono HBB.out.size)⟩,?_⟩;rw[HM1.out,HM2.out,HM3.out,HM4.out];omega
   ·
    rw[show decide (xy=0)=false by simpa using hxy0] at HN;obtain⟨X,Y,hL⟩:=HS.out.go (by omega);have HL:=Hi hL;have hless:=hL.less hq0;have hLE:=hL.le;have HLG:=Hi hL.gcd;clear hL hxy0;go_wp2_with fail;go_fit (HN.out _);rintro e w3 ⟨rfl,hb3⟩;have HB3:Hid (Below wr.heap.size wr w3):=Hi ((HB2.out.alloc HB2.out.size _).trans (hb3.mono (HB2.out.alloc HB2.out.size _).size));have HS3:=Hi ((SB.new w2 _ _).below hb3 (by rw[World.size_alloc];omega));clear hb3 HN;have k0:=HS3.out.cell 0;have k1:=HS3.out.cell 1;have k2:=HS3.out.cell 2;have k3:=HS3.out.cell 3;have k4:=HS3.out.cell 4;simp at k0 k1 k2 k3 k4;have HD:=Hi (Qms odd xx xy yx yy g1 g2 c d C1 C2 l m p q X Y w3 (HO1.out.below HB3.out) (HO2.out.below HB3.out) hn12 hqp HS.out HL.out hq0 w.heap.size hB1 hB2);go_wp2_with fail;go_fit HD.out;rintro e w4 ⟨⟨ga,gb,ca,cb,Ca,Cb,la,lb,rfl,hoa,hob,hgab⟩,hb4⟩
    have HB4:Hid (Below w.heap.size w w4):=Hi ((HBB.out.trans (HB3.out.mono HBB.out.size)).trans hb4);have huq:=hoa.u64;have hur:=hob.u64;have HOA:=Hi hoa;have HOB:=Hi hob;have hgs:ga≠gb∧w.heap.size≤ga∧w.heap.size≤gb:=by omega
    clear hoa hob hgab;have HUQ:=Hi huq;have HUR:=Hi hur;have HM1:=Hi (HNA.out _ _ _ _ _ HU1.out);have HM2:=Hi (HNA.out _ _ _ _ _ HU2.out);have HM3:=Hi (HNA.out _ _ _ _ _ HUQ.out);have HM4:=Hi (HNA.out _ _ _ _ _ HUR.out);have hql:=huq.len_mono HU2.out hless.1;clear huq hur hb4 HD;go_wp2;refine⟨⟨X,Y,some ⟨ga,0,none⟩,some ⟨gb,0,none⟩,ca,cb,la,lb,rfl,rfl,by omega,by omega,HUQ.out,HUR.out,HLG.out.trans HGG.out,fun _=>⟨ga,gb,Ca,Cb,rfl,rfl,HOA.out,HOB.out,hgs.1,hgs.2.1,hgs.2.2⟩,HB4.out⟩,?_⟩;rw[HM1.out,HM2.out,HM3.out,HM4.out];omega
end Go.Proofs.YtodfmpjhcmapmaaGreatDoor
