/- package rows: Of. package cable: formOf. -/
import Derived.Test.YtfpcipgoedifaaaGreatDoorK40CabG
namespace Go.Proofs.YtfpcipgoedifaaaGreatDoor
open Go.RowKit
set_option linter.unusedVariables false
set_option linter.unusedSimpArgs false
theorem RB.rowF{w:World}{g n K:Nat}{x:Vec}{us:List FE}(h:RB w g n K x us):RowF n K x (.slice (some ⟨g,0,none⟩) n n) w:=⟨_,n,us,rfl,by have:=h.blk.row;rw[h.len] at this;exact this,h.len,h.val⟩
set_option maxRecDepth 100000 in
set_option maxHeartbeats 4000000 in
theorem Qgy(a:Option Addr)(cap n K:Nat)(ls:List ByteArray)(y:Nat->Rat)(w:World)(hg:Glob w)(h:CRow w a (textsV ls))(hy:∀(i:Nat) (s:ByteArray),ls[i]?=some s->QOf s.data.toList (y i)/\s.size<=1048576)(hK:4194305<=K)(hn:ls.length=n)(hl:n<=1000):
 Calls Tryz.prog 25 #[.slice a n cap] w (Makes w (RowF n K y)):=by
 have hmk:=Qa6 n (by omega) w;obtain⟨MC,hMC⟩:=nm (((List.replicate n FE.zero).flatMap FE.cells).toArray);rw[hMC] at hmk;obtain⟨V,hV⟩:=nm (w.alloc (.cells MC 103));rw[hV] at hmk;obtain⟨G,hG⟩:=nm w.heap.size;have HR0:Hid (RB V G n K (fun _=>0) (List.replicate n FE.zero)):=Hi (by rw[<-hV,<-hG];exact RB.new w n K MC hMC.symm (by omega));have HB0:Hid (Below w.heap.size w V):=Hi (by rw[<-hV];exact(Below.refl _ _).alloc lZ _);have HH:=Hi h;have HY:=Hi hy;have HG:=Hi hg;have HN:=Hi hn;have HGE:Hid (w.heap.size<=G):=Hi (by omega);rw[hG] at hmk;clear h hy hg hn hV hG hMC;go_enter Tryz.func25,Tryz.ntmps25;go_wp2_with fail;go_loopw [10] (fun iv wr=>∃(k:Nat) (us:List FE),k<=n/\iv=.int .i64 k/\RB wr G n K (fun i=>if i<k then y i else 0) us/\Below w.heap.size w wr) (fun iv _=>n - (intOf iv).toNat)
 case atStart=>exact⟨0,_,by omega,rfl,HR0.out.eq (fun i hi=>by rw[if_neg (by omega)]),HB0.out⟩
 case round=>
  obtain⟨k,us,hk,rfl,hrb,hbb⟩:=hrel;have HR:=Hi hrb;have HB:=Hi hbb;clear hrb hbb;by_cases hlt:k<n
  ·
   obtain⟨s,hs⟩:∃s,ls[k]?=some s:=⟨ls[k]'(by have:=HN.out;omega),gE _⟩;obtain⟨b,off,rfl,hb,x0⟩:=(HH.out.below HB.out).cell k (.string s) (by unfold textsV;rw[List.getElem?_map,hs];rfl);have HYK:=Hi (HY.out k s hs);have q1:((k:Int)<(n:Int)):=by omega
   clear hs;go_wp2_with fail;refine Makes.use (FF.of (HG.out.below HB.out) HYK.out.1 HYK.out.2 (by decide) hK) ?_;intro v w2 hb2 hv;clear x0;obtain⟨x',y',z',rfl⟩:=hv.parts;obtain⟨o1,o2,o3⟩:=hv.1.one;have st0:=Qaa Tryz.prog o1;have st1:=Qaa Tryz.prog o2;have st2:=Qaa Tryz.prog o3;have hrx:=HR.out.below hb2;obtain⟨y0,y1,y2,c0,c1,c2,_⟩:=hrx.at hlt;have f0:=hrx.blk.blk.free (k*3);have f1:=hrx.blk.blk.free (k*3+1);have f2:=hrx.blk.blk.free (k*3+2);have HR7:=Hi (hrx.set hlt hv (fun i=>if i<k+1 then y i else 0) (fun i=>by
    by_cases e:i=k
    · subst e
      rw[if_pos (by omega),if_pos rfl]
    ·
     rw[if_neg e];by_cases e2:i<k
     · rw[if_pos (by omega),if_pos e2]
     · rw[if_neg (by omega),if_neg e2]))
   have HB7:=Hi (HB.out.trans (hb2.mono HB.out.size));have HO:Hid (Only G w2 (((w2.setCell ⟨G,k*3,none⟩ x').setCell ⟨G,k*3+1,none⟩ y').setCell ⟨G,k*3+2,none⟩ z')):=Hi ((((Only.refl G w2).setCell (k*3) x').setCell (k*3+1) y').setCell (k*3+2) z');clear o1 o2 o3 hrx hv hb2;go_wp2;go_roundw
   case rel=>exact⟨k+1,_,by omega,by go_num,HR7.out,Only.fresh HB7.out HO.out HGE.out⟩
   case measure=>simp[intOf];omega
  ·
   obtain rfl:k=n:=by omega
   go_wp2;go_ret;exact⟨_,rfl,HB.out,(HR.out.eq (fun i hi=>by rw[if_pos hi])).rowF⟩
def EndsOf(n:Nat)(bs:List B6)(A B:Nat->Nat):Prop:=∀(k:Nat) (b:B6),bs[k]?=some b->b.a=(A k:Int)/\b.b=(B k:Int)/\A k<n/\B k<n/\A k≠B k
theorem Qmp(m:Nat)(q:Vec)(A B:Nat->Nat)(hne:A m≠B m)(i c:Nat):Cab.barM (m+1) q A B i c=updM (updM (updM (updM (Cab.barM m q A B) (A m) (A m) (Cab.barM m q A B (A m) (A m)+q m)) (B m) (B m) (Cab.barM m q A B (B m) (B m)+q m)) (A m) (B m) (Cab.barM m q A B (A m) (B m) - q m)) (B m) (A m) (Cab.barM m q A B (B m) (A m) - q m) i c:=by
 show Cab.barM m q A B i c+q m*(Cab.ek A B m i*Cab.ek A B m c)=_
 unfold Cab.ek updM;by_cases h1:A m=i<;>by_cases h2:B m=i<;>by_cases h3:A m=c<;>by_cases h4:B m=c
 all_goals (try (exact absurd (h1.trans h2.symm) hne))
 all_goals (try (exact absurd (h3.trans h4.symm) hne))
 all_goals (try subst h1)
 all_goals (try subst h2)
 all_goals (try subst h3)
 all_goals (try subst h4)
 all_goals (simp_all<;>grind)
theorem GM.monoK{w u:World}{B G W K K':Nat}{gs:List Nat}{M:Nat->Nat->Rat}(h:GM w u B G W K gs M)(hK:K<=K'):GM w u B G W K' gs M:=
 ⟨h.base,h.out,fun r g hr=>by obtain⟨us,h1,h2,h3⟩:=h.row r g hr;exact⟨us,h1,h2,fun c t ht=>⟨(h3 c t ht).1,Nat.le_trans (h3 c t ht).2 hK⟩⟩,h.nd,h.ne,h.lo,h.los⟩
theorem GM.ff{w u:World}{B G W K r g c:Nat}{gs:List Nat}{M:Nat->Nat->Rat}(h:GM w u B G W K gs M)(hr:gs[r]?=some g)(hc:c<W):∃x y z,u.cell? ⟨g,c*3,none⟩=some x/\u.cell? ⟨g,c*3+1,none⟩=some y/\u.cell? ⟨g,c*3+2,none⟩=some z/\FF (M r c) K (.agg #[x,y,z]) u:=by
 obtain⟨us,h1,h2,h3⟩:=h.row r g hr;obtain⟨t,ht⟩:∃t,us[c]?=some t:=⟨us[c]'(by omega),gE (by omega)⟩;obtain⟨b,o,e,_,d0,d1,d2⟩:=h1.row.at ht;cases e;simp only[Nat.zero_add] at d0 d1 d2;refine⟨_,_,_,d0,d1,d2,?_⟩;rw[<-(h3 c t ht).1];exact FF.mono (h1.row.get ht) (h3 c t ht).2
structure FoW (V u:World) (G n K bx:Nat) (gs:List Nat) (M:Nat->Nat->Rat) (C:Array Value):Prop where
 gm:GM V u V.heap.size G n K gs M
 box:SB u bx 47 C
 out:∀(r g:Nat),gs[r]?=some g->g≠bx
theorem FoW.below{V u u':World}{G n K bx:Nat}{gs:List Nat}{M:Nat->Nat->Rat}{C:Array Value}(h:FoW V u G n K bx gs M C)(hb:Below u.heap.size u u'):FoW V u' G n K bx gs M C:=⟨h.gm.below hb,h.box.below hb h.box.lt,h.out⟩
theorem FoW.put{V u:World}{G n K bx r g c:Nat}{gs:List Nat}{M:Nat->Nat->Rat}{C:Array Value}{x y z:Value}{q:Rat}(h:FoW V u G n K bx gs M C)(hr:gs[r]?=some g)(hc:c<n)(hv:FF q K (.agg #[x,y,z]) u):FoW V (set3 u g c x y z) G n K bx gs (updM M r c q) C:=
 ⟨h.gm.put lZ hr hc hv.1 hv.2.1 hv.2.2,keep3 h.box (fun e=>h.out r g hr e.symm),h.out⟩
theorem FoW.monoK{V u:World}{G n K K' bx:Nat}{gs:List Nat}{M:Nat->Nat->Rat}{C:Array Value}(h:FoW V u G n K bx gs M C)(hK:K<=K'):FoW V u G n K' bx gs M C:=⟨h.gm.monoK hK,h.box,h.out⟩
theorem upd1{M:Nat->Nat->Rat}{a b:Nat}{v:Rat}(h:a≠b):updM M a a v b b=M b b:=by
 unfold updM;rw[if_neg (fun e=>h e.1.symm)]
theorem upd2{M:Nat->Nat->Rat}{a b:Nat}{v u:Rat}(h:a≠b):updM (updM M a a v) b b u a b=M a b:=by
 unfold updM;rw[if_neg (fun e=>h e.1),if_neg (fun e=>h e.2.symm)]
theorem upd3{M:Nat->Nat->Rat}{a b:Nat}{v u t:Rat}(h:a≠b):updM (updM (updM M a a v) b b u) a b t b a=M b a:=by
 unfold updM;rw[if_neg (fun e=>h e.1.symm),if_neg (fun e=>h e.2),if_neg (fun e=>h e.1.symm)]
set_option maxRecDepth 100000 in
set_option maxHeartbeats 4000000 in
theorem Qmq(a1 a2 a3:Option Addr)(c1 c2 c3 n m Kq:Nat)(js:List S2)(bs:List B6)(hs:List H3)(A B:Nat->Nat)(q:Vec)(qv:Value)(w:World)(hf:ARow B6.cells w a2 c2 bs)(hn:js.length=n)(hm:bs.length=m)(n1:n<=10)(n2:m<=24)(he:EndsOf n bs A B)(hq:RowF m Kq q qv w)(hK:4194305<=Kq)(hK2:Kq<=100000000):
 Calls Tryz.prog 24 #[.agg #[.slice a1 n c1,.slice a2 m c2,.slice a3 hs.length c3],qv] w fun e w'=>∃(G:Nat) (gs:List Nat),e=.returned (.slice (some ⟨G,0,none⟩) n n)/\gs.length=n/\w.heap.size<=G/\(∃V,Below w.heap.size w V/\GM V w' V.heap.size G n (1+96*(Kq+1)) gs (Cab.barM m q A B)):=by
 obtain⟨V,hV⟩:=nm (w.alloc (.cells #[.slice a1 n c1,.slice a2 m c2,.slice a3 hs.length c3] 26));have hbv:Below w.heap.size w V:=by rw[<-hV];exact(Below.refl _ _).alloc lZ _
 have hS0:SB V w.heap.size 26 #[.slice a1 n c1,.slice a2 m c2,.slice a3 hs.length c3]:=by rw[<-hV];exact SB.new w _ _
 have HBL:=Hi (Qgh n n V (by omega) (by omega));obtain⟨qa,qc,ts,rfl,hqr,hql,hqv⟩:=hq.below hbv;have HF:=Hi (hf.below hbv);have HE:=Hi he;have HQR:=Hi hqr;have HQT:=Hi hqv;have HBV:=Hi hbv;have HN:=Hi hn;have HM:=Hi hm;have HQLN:=Hi hql;have HS0:=Hi hS0;have d0:=hS0.cell 0;simp only[List.getElem?_toArray,List.getElem?_cons_zero,List.getElem?_cons_succ] at d0;have HVE:=Hi hV;clear hf hn hm he hq hV hbv hS0 hqr hql hqv;go_enter Tryz.func24,Tryz.ntmps24;go_wp2_with fail;rw[HVE.out];go_wp2_with fail;go_fit HBL.out;rintro e u ⟨⟨G,gs,rfl,hgl,hGlo,hout,hrow,hnd⟩,hb⟩;have HGM:Hid (GM V u V.heap.size G n 1 gs (Cab.barM 0 q A B)):=Hi (by
  refine⟨hb,hout,fun r g hr=>⟨_,(hrow r g hr).1,by simp,fun c t ht=>?_⟩,hnd,fun r g hr=>by have:=(hrow r g hr).2;omega,hGlo,fun r g hr=>by have:=(hrow r g hr).2;omega⟩;obtain⟨_,rfl⟩:=List.mem_replicate.1 (mO ht)
  exact⟨by rfl,by simp[FE.zero]⟩)
 have HGL:=Hi hgl;have k1:=(HS0.out.below hb HS0.out.lt).cell 1;simp only[List.getElem?_toArray,List.getElem?_cons_zero,List.getElem?_cons_succ] at k1;clear hgl hGlo hout hrow hnd hb HBL d0;go_wp2_with fail;go_loopw [18] (fun iv wr=>∃k:Nat,k<=m/\iv=.int .i64 k/\GM V wr V.heap.size G n (1+4*k*(Kq+1)) gs (Cab.barM k q A B)) (fun iv _=>m - (intOf iv).toNat)
 case atStart=>exact⟨0,Nat.zero_le _,rfl,HGM.out.monoK (by omega)⟩
 case round=>
  obtain⟨k,hk,rfl,hgm⟩:=hrel;have HG:=Hi hgm;clear hgm;by_cases hkm:k<m
  ·
   obtain⟨b,hbk⟩:∃b,bs[k]?=some b:=⟨bs[k]'(by have:=HM.out;omega),gE _⟩;obtain⟨bb,bo,rfl,hbl,d0,d1,d2,d3,d4,d5⟩:=(HF.out.below HG.out.base).bar hbk;obtain⟨na,hna⟩:=nm (A k);obtain⟨nb,hnb⟩:=nm (B k);obtain⟨f1,f2,f3,f4,f5⟩:=HE.out k b hbk;rw[hna] at f1 f3 f5;rw[hnb] at f2 f4 f5;rw[f1] at d0;rw[f2] at d1;obtain⟨t,ht⟩:∃t,ts[k]?=some t:=⟨ts[k]'(by have:=HQLN.out;omega),gE _⟩;obtain⟨qb,qo,hqa,hqb,t0,t1,t2⟩:=HQR.out.at ht;have HQV:Hid (qb<V.heap.size/\V.cell? ⟨qb,qo+k*3,none⟩=some t.x/\V.cell? ⟨qb,qo+k*3+1,none⟩=some t.y/\V.cell? ⟨qb,qo+k*3+2,none⟩=some t.z):=Hi ⟨hqb,t0,t1,t2⟩;have HQF:Hid (FF (q k) Kq (.agg #[t.x,t.y,t.z]) V):=Hi (by
    rw[<-(HQT.out k t ht).1]
    exact FF.mono (HQR.out.get ht) (HQT.out k t ht).2)
   obtain⟨U,hU⟩:=nm (wr.alloc (.cells #[.int .i64 na,.int .i64 nb,.string b.c,.string b.e,.string b.l,.string b.m] 47));have hbU:Below wr.heap.size wr U:=by rw[<-hU];exact(Below.refl _ _).alloc lZ _
   have HFU:Hid (FoW V U G n (1+4*k*(Kq+1)) wr.heap.size gs (Cab.barM k q A B) #[.int .i64 na,.int .i64 nb,.string b.c,.string b.e,.string b.l,.string b.m]):=Hi ⟨HG.out.below hbU,by rw[<-hU];exact SB.new wr _ _,fun r g hr e=>by have:=HG.out.lt hr;omega⟩;have HUE:=Hi hU;have HNA:=Hi hna;have HNB:=Hi hnb;have HNE:=Hi f5;subst hqa;have q1:((k:Int)<(m:Int)):=by omega
   have q2:((na:Int)<(n:Int)):=by omega
   have q3:((nb:Int)<(n:Int)):=by omega
   clear hbk ht t0 t1 t2 hqb f1 f2 f5 hbU hU hna hnb;obtain⟨J0,hJ0⟩:=nm (1+4*k*(Kq+1));have HJB:Hid (J0+Kq<68719476000/\J0+Kq+1+Kq<68719476000/\J0+Kq+1+Kq+1+Kq<68719476000/\J0+Kq+1+Kq+1+Kq+1+Kq<68719476000):=Hi (by
    have h1:4*k*(Kq+1)<=4*24*100000001:=Nat.mul_le_mul (by omega) (by omega)
    omega)
   have HJE:Hid (J0+Kq+1+Kq+1+Kq+1+Kq+1=1+4*(k+1)*(Kq+1)):=Hi (by
    rw[<-hJ0,Nat.mul_add 4 k 1,Nat.add_mul]
    omega)
   rw[hJ0] at HFU;obtain⟨M0,hM0⟩:=nm (Cab.barM k q A B);rw[hM0] at HFU;have HNX:=Hi (funext fun i=>funext fun c=>Qmp k q A B (by rw[HNA.out,HNB.out];exact HNE.out) i c);rw[hM0,HNA.out,HNB.out] at HNX;clear hJ0 hM0;go_wp2_with fail;rw[HUE.out];clear d0 d1 d2 d3 d4 d5;generalize hbx:wr.heap.size=bx at*;have HBX:=Hi hbx;clear hbx;have HFW:=Hi (HFU.out.below ((Below.refl _ U).drew));clear HFU;obtain⟨gx,hgx⟩:∃g,gs[na]?=some g:=⟨gs[na]'(by have:=HGL.out;omega),gE _⟩;obtain⟨x0,y0,z0,e0,e1,e2,hef⟩:=HFW.out.gm.ff (c:=na) hgx (by omega);skip;have HGX:=Hi hgx;have HGXL:=Hi (HFW.out.gm.lt hgx);have HE0:=Hi e0;have HE1:=Hi e1;have HE2:=Hi e2;have HEF:=Hi hef;have HXL:=Hi HFW.out.box.lt;have HX0:=Hi (HFW.out.box.cell 0);have HX1:=Hi (HFW.out.box.cell 1);simp only[List.getElem?_toArray,List.getElem?_cons_zero,List.getElem?_cons_succ] at HX0 HX1
   have HQ0:=Hi (ce HFW.out.gm.base HQV.out.1 HQV.out.2.1);have HQ1:=Hi (ce HFW.out.gm.base HQV.out.1 HQV.out.2.2.1);have HQ2:=Hi (ce HFW.out.gm.base HQV.out.1 HQV.out.2.2.2);have HQL:=Hi (Nat.lt_of_lt_of_le HQV.out.1 HFW.out.gm.base.size);clear hgx e0 e1 e2 hef;go_wp2_with fail;refine RegG.bg 22 (fun j=>some (23+j)) ?_;refine RegG.p0 [] ?_;refine RegG.p0 [] ?_;refine RegG.pu (c:=?_) [1] (fun w hb=>?_) ?_;rotate_left
   ·
    intro K hK;have d0:=ce hb HXL.out HX0.out;have d1:=ce hb HXL.out HX1.out;go_simp;exact hK
   refine RegG.p0 [0,2] ?_;refine RegG.pu (c:=?_) [3] (fun w hb=>?_) ?_;rotate_left
   ·
    intro K hK;have d0:=(HFW.out.below hb).gm.cell HGX.out;go_simp;exact hK
   refine RegG.p0 [] ?_;refine RegG.pu (c:=?_) [5] (fun w hb=>?_) ?_;rotate_left
   ·
    intro K hK;have d0:=ce hb HXL.out HX0.out;have d1:=ce hb HXL.out HX1.out;go_simp;exact hK
   refine RegG.p0 [] ?_;refine RegG.p0 [] ?_;refine RegG.pu (c:=?_) [8] (fun w hb=>?_) ?_;rotate_left
   ·
    intro K hK;have d0:=ce hb HXL.out HX0.out;have d1:=ce hb HXL.out HX1.out;go_simp;exact hK
   refine RegG.p0 [7,9] ?_;refine RegG.pu (c:=?_) [10] (fun w hb=>?_) ?_;rotate_left
   ·
    intro K hK;have d0:=(HFW.out.below hb).gm.cell HGX.out;go_simp;exact hK
   refine RegG.p0 [] ?_;refine RegG.pu (c:=?_) [12] (fun w hb=>?_) ?_;rotate_left
   ·
    intro K hK;have d0:=ce hb HXL.out HX0.out;have d1:=ce hb HXL.out HX1.out;go_simp;exact hK
   refine RegG.p0 [11,13] ?_;refine RegG.pu (c:=?_) [14] (fun w hb=>?_) ?_;rotate_left
   ·
    intro K hK;have d0:=ce hb HGXL.out HE0.out;have d1:=ce hb HGXL.out HE1.out;have d2:=ce hb HGXL.out HE2.out;go_simp;exact hK
   refine RegG.p0 [] ?_;refine RegG.p0 [] ?_;refine RegG.p0 [16,17] ?_;refine RegG.pu (c:=?_) [18] (fun w hb=>?_) ?_;rotate_left
   ·
    intro K hK;have d0:=ce hb HQL.out HQ0.out;have d1:=ce hb HQL.out HQ1.out;have d2:=ce hb HQL.out HQ2.out;go_simp;exact hK
   refine RegG.ca (φ:=FF (M0 na na+q k) (J0+Kq+1)) [15,19] (FF.stays _ _) (fun w hb=>?_) ?_
   ·
    skip;intro K hK;go_simp;exact Makes.use ((HEF.out.below hb).plus ((HQF.out.below HFW.out.gm.base).below hb) HJB.out.1) hK
   refine RegG.p0 [4,6] ?_;refine RegG.last (by simp only[List.nil_append,List.cons_append,List.length_append,List.length_cons,List.length_nil,Nat.reduceAdd]) (by rfl) (by rfl) (by kernel_rfl) (fun u1 hb=>?_);simp only[FinG,List.nil_append,List.cons_append,Qaf,Act.put,List.setIfInBounds_toArray,List.set_cons_zero,List.set_cons_succ,Nat.reduceAdd,Nat.reduceBEq,cond_true,cond_false];intro v20 h20 K hK;obtain⟨x',y',z',rfl⟩:=h20.parts;obtain⟨o1,o2,o3⟩:=h20.1.one;have st0:=Qaa Tryz.prog o1;have st1:=Qaa Tryz.prog o2;have st2:=Qaa Tryz.prog o3;have hfw:=HFW.out.below hb;obtain⟨w0,w1,w2,c0,c1,c2,f0,f1,f2⟩:=hfw.gm.at HGX.out (show na<n by omega);have HFU:=Hi ((hfw.monoK (K':=J0+Kq+1) (by omega)).put HGX.out (show na<n by omega) h20);go_simp;refine hK _ _ ?_;clear hK c0 c1 c2 f0 f1 f2 st0 st1 st2 o1 o2 o3 h20 hfw hb HX0 HX1 HE0 HE1 HE2 HQ0 HQ1 HQ2 HGX HGXL HEF HXL HQL HFW
   obtain⟨U2,hU2⟩:∃u,set3 u1 gx na x' y' z'=u:=⟨_,rfl⟩;unfold set3 at hU2;unfold set3 at HFU;rw[hU2] at HFU ⊢;clear hU2;have HFW:=Hi (HFU.out.below ((Below.refl _ U2).drew));clear HFU;obtain⟨gx,hgx⟩:∃g,gs[nb]?=some g:=⟨gs[nb]'(by have:=HGL.out;omega),gE _⟩;obtain⟨x0,y0,z0,e0,e1,e2,hef⟩:=HFW.out.gm.ff (c:=nb) hgx (by omega);rw[upd1 HNE.out] at hef;have HGX:=Hi hgx;have HGXL:=Hi (HFW.out.gm.lt hgx);have HE0:=Hi e0;have HE1:=Hi e1;have HE2:=Hi e2;have HEF:=Hi hef;have HXL:=Hi HFW.out.box.lt;have HX0:=Hi (HFW.out.box.cell 0);have HX1:=Hi (HFW.out.box.cell 1);simp only[List.getElem?_toArray,List.getElem?_cons_zero,List.getElem?_cons_succ] at HX0 HX1;have HQ0:=Hi (ce HFW.out.gm.base HQV.out.1 HQV.out.2.1);have HQ1:=Hi (ce HFW.out.gm.base HQV.out.1 HQV.out.2.2.1)
   have HQ2:=Hi (ce HFW.out.gm.base HQV.out.1 HQV.out.2.2.2);have HQL:=Hi (Nat.lt_of_lt_of_le HQV.out.1 HFW.out.gm.base.size);clear hgx e0 e1 e2 hef;go_wp2_with fail;refine RegG.bg 22 (fun j=>some (45+j)) ?_;refine RegG.p0 [] ?_;refine RegG.p0 [] ?_;refine RegG.pu (c:=?_) [1] (fun w hb=>?_) ?_;rotate_left
   ·
    intro K hK;have d0:=ce hb HXL.out HX0.out;have d1:=ce hb HXL.out HX1.out;go_simp;exact hK
   refine RegG.p0 [0,2] ?_;refine RegG.pu (c:=?_) [3] (fun w hb=>?_) ?_;rotate_left
   ·
    intro K hK;have d0:=(HFW.out.below hb).gm.cell HGX.out;go_simp;exact hK
   refine RegG.p0 [] ?_;refine RegG.pu (c:=?_) [5] (fun w hb=>?_) ?_;rotate_left
   ·
    intro K hK;have d0:=ce hb HXL.out HX0.out;have d1:=ce hb HXL.out HX1.out;go_simp;exact hK
   refine RegG.p0 [] ?_;refine RegG.p0 [] ?_;refine RegG.pu (c:=?_) [8] (fun w hb=>?_) ?_;rotate_left
   ·
    intro K hK;have d0:=ce hb HXL.out HX0.out;have d1:=ce hb HXL.out HX1.out;go_simp;exact hK
   refine RegG.p0 [7,9] ?_;refine RegG.pu (c:=?_) [10] (fun w hb=>?_) ?_;rotate_left
   ·
    intro K hK;have d0:=(HFW.out.below hb).gm.cell HGX.out;go_simp;exact hK
   refine RegG.p0 [] ?_;refine RegG.pu (c:=?_) [12] (fun w hb=>?_) ?_;rotate_left
   ·
    intro K hK;have d0:=ce hb HXL.out HX0.out;have d1:=ce hb HXL.out HX1.out;go_simp;exact hK
   refine RegG.p0 [11,13] ?_;refine RegG.pu (c:=?_) [14] (fun w hb=>?_) ?_;rotate_left
   ·
    intro K hK;have d0:=ce hb HGXL.out HE0.out;have d1:=ce hb HGXL.out HE1.out;have d2:=ce hb HGXL.out HE2.out;go_simp;exact hK
   refine RegG.p0 [] ?_;refine RegG.p0 [] ?_;refine RegG.p0 [16,17] ?_;refine RegG.pu (c:=?_) [18] (fun w hb=>?_) ?_;rotate_left
   ·
    intro K hK;have d0:=ce hb HQL.out HQ0.out;have d1:=ce hb HQL.out HQ1.out;have d2:=ce hb HQL.out HQ2.out;go_simp;exact hK
   refine RegG.ca (φ:=FF (M0 nb nb+q k) (J0+Kq+1+Kq+1)) [15,19] (FF.stays _ _) (fun w hb=>?_) ?_
   ·
    skip;intro K hK;go_simp;exact Makes.use ((HEF.out.below hb).plus ((HQF.out.below HFW.out.gm.base).below hb) HJB.out.2.1) hK
   refine RegG.p0 [4,6] ?_;refine RegG.last (by simp only[List.nil_append,List.cons_append,List.length_append,List.length_cons,List.length_nil,Nat.reduceAdd]) (by rfl) (by rfl) (by kernel_rfl) (fun u1 hb=>?_);simp only[FinG,List.nil_append,List.cons_append,Qaf,Act.put,List.setIfInBounds_toArray,List.set_cons_zero,List.set_cons_succ,Nat.reduceAdd,Nat.reduceBEq,cond_true,cond_false];intro v20 h20 K hK;obtain⟨x',y',z',rfl⟩:=h20.parts;obtain⟨o1,o2,o3⟩:=h20.1.one;have st0:=Qaa Tryz.prog o1;have st1:=Qaa Tryz.prog o2;have st2:=Qaa Tryz.prog o3;have hfw:=HFW.out.below hb;obtain⟨w0,w1,w2,c0,c1,c2,f0,f1,f2⟩:=hfw.gm.at HGX.out (show nb<n by omega);have HFU:=Hi ((hfw.monoK (K':=J0+Kq+1+Kq+1) (by omega)).put HGX.out (show nb<n by omega) h20);go_simp;refine hK _ _ ?_;clear hK c0 c1 c2 f0 f1 f2 st0 st1 st2 o1 o2 o3 h20 hfw hb HX0 HX1 HE0 HE1 HE2 HQ0 HQ1 HQ2 HGX HGXL HEF HXL HQL HFW
   obtain⟨U3,hU2⟩:∃u,set3 u1 gx nb x' y' z'=u:=⟨_,rfl⟩;unfold set3 at hU2;unfold set3 at HFU;rw[hU2] at HFU ⊢;clear hU2;have HFW:=Hi (HFU.out.below ((Below.refl _ U3).drew));clear HFU;obtain⟨gx,hgx⟩:∃g,gs[na]?=some g:=⟨gs[na]'(by have:=HGL.out;omega),gE _⟩;obtain⟨x0,y0,z0,e0,e1,e2,hef⟩:=HFW.out.gm.ff (c:=nb) hgx (by omega);rw[upd2 HNE.out] at hef;have HGX:=Hi hgx;have HGXL:=Hi (HFW.out.gm.lt hgx);have HE0:=Hi e0;have HE1:=Hi e1;have HE2:=Hi e2;have HEF:=Hi hef;have HXL:=Hi HFW.out.box.lt;have HX0:=Hi (HFW.out.box.cell 0);have HX1:=Hi (HFW.out.box.cell 1);simp only[List.getElem?_toArray,List.getElem?_cons_zero,List.getElem?_cons_succ] at HX0 HX1;have HQ0:=Hi (ce HFW.out.gm.base HQV.out.1 HQV.out.2.1);have HQ1:=Hi (ce HFW.out.gm.base HQV.out.1 HQV.out.2.2.1)
   have HQ2:=Hi (ce HFW.out.gm.base HQV.out.1 HQV.out.2.2.2);have HQL:=Hi (Nat.lt_of_lt_of_le HQV.out.1 HFW.out.gm.base.size);clear hgx e0 e1 e2 hef;go_wp2_with fail;refine RegG.bg 22 (fun j=>some (67+j)) ?_;refine RegG.p0 [] ?_;refine RegG.p0 [] ?_;refine RegG.pu (c:=?_) [1] (fun w hb=>?_) ?_;rotate_left
   ·
    intro K hK;have d0:=ce hb HXL.out HX0.out;have d1:=ce hb HXL.out HX1.out;go_simp;exact hK
   refine RegG.p0 [0,2] ?_;refine RegG.pu (c:=?_) [3] (fun w hb=>?_) ?_;rotate_left
   ·
    intro K hK;have d0:=(HFW.out.below hb).gm.cell HGX.out;go_simp;exact hK
   refine RegG.p0 [] ?_;refine RegG.pu (c:=?_) [5] (fun w hb=>?_) ?_;rotate_left
   ·
    intro K hK;have d0:=ce hb HXL.out HX0.out;have d1:=ce hb HXL.out HX1.out;go_simp;exact hK
   refine RegG.p0 [] ?_;refine RegG.p0 [] ?_;refine RegG.pu (c:=?_) [8] (fun w hb=>?_) ?_;rotate_left
   ·
    intro K hK;have d0:=ce hb HXL.out HX0.out;have d1:=ce hb HXL.out HX1.out;go_simp;exact hK
   refine RegG.p0 [7,9] ?_;refine RegG.pu (c:=?_) [10] (fun w hb=>?_) ?_;rotate_left
   ·
    intro K hK;have d0:=(HFW.out.below hb).gm.cell HGX.out;go_simp;exact hK
   refine RegG.p0 [] ?_;refine RegG.pu (c:=?_) [12] (fun w hb=>?_) ?_;rotate_left
   ·
    intro K hK;have d0:=ce hb HXL.out HX0.out;have d1:=ce hb HXL.out HX1.out;go_simp;exact hK
   refine RegG.p0 [11,13] ?_;refine RegG.pu (c:=?_) [14] (fun w hb=>?_) ?_;rotate_left
   ·
    intro K hK;have d0:=ce hb HGXL.out HE0.out;have d1:=ce hb HGXL.out HE1.out;have d2:=ce hb HGXL.out HE2.out;go_simp;exact hK
   refine RegG.p0 [] ?_;refine RegG.p0 [] ?_;refine RegG.p0 [16,17] ?_;refine RegG.pu (c:=?_) [18] (fun w hb=>?_) ?_;rotate_left
   ·
    intro K hK;have d0:=ce hb HQL.out HQ0.out;have d1:=ce hb HQL.out HQ1.out;have d2:=ce hb HQL.out HQ2.out;go_simp;exact hK
   refine RegG.ca (φ:=FF (M0 na nb - q k) (J0+Kq+1+Kq+1+Kq+1)) [15,19] (FF.stays _ _) (fun w hb=>?_) ?_
   ·
    skip;intro K hK;go_simp;exact Makes.use ((HEF.out.below hb).minus ((HQF.out.below HFW.out.gm.base).below hb) HJB.out.2.2.1) hK
   refine RegG.p0 [4,6] ?_;refine RegG.last (by simp only[List.nil_append,List.cons_append,List.length_append,List.length_cons,List.length_nil,Nat.reduceAdd]) (by rfl) (by rfl) (by kernel_rfl) (fun u1 hb=>?_);simp only[FinG,List.nil_append,List.cons_append,Qaf,Act.put,List.setIfInBounds_toArray,List.set_cons_zero,List.set_cons_succ,Nat.reduceAdd,Nat.reduceBEq,cond_true,cond_false];intro v20 h20 K hK;obtain⟨x',y',z',rfl⟩:=h20.parts;obtain⟨o1,o2,o3⟩:=h20.1.one;have st0:=Qaa Tryz.prog o1;have st1:=Qaa Tryz.prog o2;have st2:=Qaa Tryz.prog o3;have hfw:=HFW.out.below hb;obtain⟨w0,w1,w2,c0,c1,c2,f0,f1,f2⟩:=hfw.gm.at HGX.out (show nb<n by omega);have HFU:=Hi ((hfw.monoK (K':=J0+Kq+1+Kq+1+Kq+1) (by omega)).put HGX.out (show nb<n by omega) h20);go_simp;refine hK _ _ ?_;clear hK c0 c1 c2 f0 f1 f2 st0 st1 st2 o1 o2 o3 h20 hfw hb HX0 HX1 HE0 HE1 HE2 HQ0 HQ1 HQ2 HGX HGXL HEF HXL HQL HFW
   obtain⟨U4,hU2⟩:∃u,set3 u1 gx nb x' y' z'=u:=⟨_,rfl⟩;unfold set3 at hU2;unfold set3 at HFU;rw[hU2] at HFU ⊢;clear hU2;have HFW:=Hi (HFU.out.below ((Below.refl _ U4).drew));clear HFU;obtain⟨gx,hgx⟩:∃g,gs[nb]?=some g:=⟨gs[nb]'(by have:=HGL.out;omega),gE _⟩;obtain⟨x0,y0,z0,e0,e1,e2,hef⟩:=HFW.out.gm.ff (c:=na) hgx (by omega);rw[upd3 HNE.out] at hef;have HGX:=Hi hgx;have HGXL:=Hi (HFW.out.gm.lt hgx);have HE0:=Hi e0;have HE1:=Hi e1;have HE2:=Hi e2;have HEF:=Hi hef;have HXL:=Hi HFW.out.box.lt;have HX0:=Hi (HFW.out.box.cell 0);have HX1:=Hi (HFW.out.box.cell 1);simp only[List.getElem?_toArray,List.getElem?_cons_zero,List.getElem?_cons_succ] at HX0 HX1;have HQ0:=Hi (ce HFW.out.gm.base HQV.out.1 HQV.out.2.1);have HQ1:=Hi (ce HFW.out.gm.base HQV.out.1 HQV.out.2.2.1)
   have HQ2:=Hi (ce HFW.out.gm.base HQV.out.1 HQV.out.2.2.2);have HQL:=Hi (Nat.lt_of_lt_of_le HQV.out.1 HFW.out.gm.base.size);clear hgx e0 e1 e2 hef;go_wp2_with fail;refine RegG.bg 22 (fun j=>some (89+j)) ?_;refine RegG.p0 [] ?_;refine RegG.p0 [] ?_;refine RegG.pu (c:=?_) [1] (fun w hb=>?_) ?_;rotate_left
   ·
    intro K hK;have d0:=ce hb HXL.out HX0.out;have d1:=ce hb HXL.out HX1.out;go_simp;exact hK
   refine RegG.p0 [0,2] ?_;refine RegG.pu (c:=?_) [3] (fun w hb=>?_) ?_;rotate_left
   ·
    intro K hK;have d0:=(HFW.out.below hb).gm.cell HGX.out;go_simp;exact hK
   refine RegG.p0 [] ?_;refine RegG.pu (c:=?_) [5] (fun w hb=>?_) ?_;rotate_left
   ·
    intro K hK;have d0:=ce hb HXL.out HX0.out;have d1:=ce hb HXL.out HX1.out;go_simp;exact hK
   refine RegG.p0 [] ?_;refine RegG.p0 [] ?_;refine RegG.pu (c:=?_) [8] (fun w hb=>?_) ?_;rotate_left
   ·
    intro K hK;have d0:=ce hb HXL.out HX0.out;have d1:=ce hb HXL.out HX1.out;go_simp;exact hK
   refine RegG.p0 [7,9] ?_;refine RegG.pu (c:=?_) [10] (fun w hb=>?_) ?_;rotate_left
   ·
    intro K hK;have d0:=(HFW.out.below hb).gm.cell HGX.out;go_simp;exact hK
   refine RegG.p0 [] ?_;refine RegG.pu (c:=?_) [12] (fun w hb=>?_) ?_;rotate_left
   ·
    intro K hK;have d0:=ce hb HXL.out HX0.out;have d1:=ce hb HXL.out HX1.out;go_simp;exact hK
   refine RegG.p0 [11,13] ?_;refine RegG.pu (c:=?_) [14] (fun w hb=>?_) ?_;rotate_left
   ·
    intro K hK;have d0:=ce hb HGXL.out HE0.out;have d1:=ce hb HGXL.out HE1.out;have d2:=ce hb HGXL.out HE2.out;go_simp;exact hK
   refine RegG.p0 [] ?_;refine RegG.p0 [] ?_;refine RegG.p0 [16,17] ?_;refine RegG.pu (c:=?_) [18] (fun w hb=>?_) ?_;rotate_left
   ·
    intro K hK;have d0:=ce hb HQL.out HQ0.out;have d1:=ce hb HQL.out HQ1.out;have d2:=ce hb HQL.out HQ2.out;go_simp;exact hK
   refine RegG.ca (φ:=FF (M0 nb na - q k) (J0+Kq+1+Kq+1+Kq+1+Kq+1)) [15,19] (FF.stays _ _) (fun w hb=>?_) ?_
   ·
    skip;intro K hK;go_simp;exact Makes.use ((HEF.out.below hb).minus ((HQF.out.below HFW.out.gm.base).below hb) HJB.out.2.2.2) hK
   refine RegG.p0 [4,6] ?_;refine RegG.last (by simp only[List.nil_append,List.cons_append,List.length_append,List.length_cons,List.length_nil,Nat.reduceAdd]) (by rfl) (by rfl) (by kernel_rfl) (fun u1 hb=>?_);simp only[FinG,List.nil_append,List.cons_append,Qaf,Act.put,List.setIfInBounds_toArray,List.set_cons_zero,List.set_cons_succ,Nat.reduceAdd,Nat.reduceBEq,cond_true,cond_false];intro v20 h20 K hK;obtain⟨x',y',z',rfl⟩:=h20.parts;obtain⟨o1,o2,o3⟩:=h20.1.one;have st0:=Qaa Tryz.prog o1;have st1:=Qaa Tryz.prog o2;have st2:=Qaa Tryz.prog o3;have hfw:=HFW.out.below hb;obtain⟨w0,w1,w2,c0,c1,c2,f0,f1,f2⟩:=hfw.gm.at HGX.out (show na<n by omega);have HFU:=Hi ((hfw.monoK (K':=J0+Kq+1+Kq+1+Kq+1+Kq+1) (by omega)).put HGX.out (show na<n by omega) h20);go_simp;refine hK _ _ ?_;clear hK c0 c1 c2 f0 f1 f2 st0 st1 st2 o1 o2 o3 h20 hfw hb HX0 HX1 HE0 HE1 HE2 HQ0 HQ1 HQ2 HGX HGXL HEF HXL HQL HFW
   obtain⟨U5,hU2⟩:∃u,set3 u1 gx na x' y' z'=u:=⟨_,rfl⟩;unfold set3 at hU2;unfold set3 at HFU;rw[hU2] at HFU ⊢;clear hU2;have HG5:=Hi HFU.out.gm;rw[<-HNX.out,HJE.out] at HG5;have hbx:=HBX.out;subst hbx;go_wp2;go_roundw
   case rel=>exact⟨k+1,by omega,by go_num,HG5.out⟩
   case measure=>simp[intOf];omega
  ·
   obtain rfl:k=m:=by omega
   go_wp2;go_ret;refine⟨G,gs,rfl,HGL.out,Nat.le_trans HBV.out.size HG.out.lo,V,HBV.out,HG.out.monoK ?_⟩;have:4*k*(Kq+1)<=96*(Kq+1):=Nat.mul_le_mul (by omega) lZ;omega
end Go.Proofs.YtfpcipgoedifaaaGreatDoor
