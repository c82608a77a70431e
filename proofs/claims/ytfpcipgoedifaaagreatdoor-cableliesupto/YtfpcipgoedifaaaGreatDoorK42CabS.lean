/- The two sides of a net, as they lie while they are filled; a drawn region that writes into two rows. -/
import Derived.Test.YtfpcipgoedifaaaGreatDoorK41CabD
namespace Go.Proofs.YtfpcipgoedifaaaGreatDoor
open Go.RowKit
set_option linter.unusedVariables false
set_option linter.unusedSimpArgs false
theorem IG.apart{w:World}{B g:Nat}{v:Value}{l:List Nat}{t:TypeId}{C:Array Value}(h:IG w B v l)(hs:SB w g t C)(ht:t≠3):some g≠v.ownBlock:=fun e=>by
 obtain⟨D,h2,_⟩:=Grow.sb h e.symm;unfold SB at hs h2;rw[hs] at h2;injection Option.some.inj h2 with _ h4
 exact ht h4
theorem IG.only{w w':World}{B g:Nat}{v:Value}{l:List Nat}{t:TypeId}{C:Array Value}(h:IG w B v l)(hs:SB w g t C)(ht:t≠3)(ho:Only g w w'):IG w' B v l:=
 Grow.keep h (fun b hb=>ho.block b (h.lt hb).2 (fun e=>h.apart hs ht (by rw[hb,e])))
theorem RB.grownI{w w':World}{B g n K:Nat}{x:Vec}{us:List FE}{v:Value}{l:List Nat}(h:RB w g n K x us)(hg:IG w B v l)(hw:w.grownBy w' v.ownBlock):RB w' g n K x us:=
 have hf:Fr w w':=Grow.only hg hw (fun C hC=>IsI.plain hC)
 ⟨⟨Qic h.blk.blk hw (hg.apart h.blk.blk (by decide)),fun t ht=>⟨(h.blk.ts t ht).1.fr hf,(h.blk.ts t ht).2⟩⟩,h.len,h.val⟩
def frB(hl:List Bool)(i:Nat):Bool:=!(hl.getD i false)
theorem Qgz{hl:List Bool}{i:Nat}{b:Bool}(h:hl[i]?=some b):frB hl i= !b:=by
 unfold frB;rw[List.getD_eq_getElem?_getD,h];rfl
set_option maxRecDepth 100000 in
set_option maxHeartbeats 4000000 in
theorem Qmt(n K hg cx cl ch:Nat)(xa:Option Addr)(lv:Value)(x:Vec)(ts:List FE)(hl:List Bool)(w:World)(hx:QRow w xa cx ts)(hts:ts.length=n)(hxv:∀(c:Nat) (t:FE),ts[c]?=some t->t.q=x c/\t.k<=K)(hh:SB w hg 4 (boolsV hl).toArray)(hhl:hl.length=n)(ho:lv.oneCell'=true)(hn:n<=1000)(hK:0<K):
 Calls Tryz.prog 52 #[.agg #[.slice xa n cx,lv,.slice (some ⟨hg,0,none⟩) n ch]] w fun e w'=>∃g us fv,e=.returned (.tuple #[.slice (some ⟨g,0,none⟩) n n,fv])/\w.heap.size<=g/\RB w' g n K (Cab.x0V (frB hl) x) us/\IG w' w.heap.size fv (Giv.frs (frB hl) n)/\Below w.heap.size w w':=by
 obtain⟨V,hV⟩:=nm (w.alloc (.cells #[.slice xa n cx,lv,.slice (some ⟨hg,0,none⟩) n ch] 74));have hbv:Below w.heap.size w V:=by rw[<-hV];exact(Below.refl _ _).alloc lZ _
 have hS0:SB V w.heap.size 74 #[.slice xa n cx,lv,.slice (some ⟨hg,0,none⟩) n ch]:=by rw[<-hV];exact SB.new w _ _
 have hmk:=Qa6 n (by omega) V;obtain⟨MC,hMC⟩:=nm (((List.replicate n FE.zero).flatMap FE.cells).toArray);rw[hMC] at hmk;obtain⟨U,hU⟩:=nm (V.alloc (.cells MC 103));have hbU:Below V.heap.size V U:=by rw[<-hU];exact(Below.refl _ _).alloc lZ _
 obtain⟨G,hG⟩:=nm V.heap.size;have HR0:Hid (RB U G n K (fun _=>0) (List.replicate n FE.zero)):=Hi (by rw[<-hU,<-hG];exact RB.new V n K MC hMC.symm hK);have d0:=hS0.cell 0;have k0:=(hS0.below hbU hS0.lt).cell 0;have k2:=(hS0.below hbU hS0.lt).cell 2;simp only[List.getElem?_toArray,List.getElem?_cons_zero,List.getElem?_cons_succ] at d0 k0 k2;have HBU:Hid (Below w.heap.size w U):=Hi (hbv.trans (hbU.mono hbv.size));have HGW:Hid (w.heap.size<G):=Hi (by
  rw[<-hG,<-hV]
  show w.heap.size<(w.heap.push _).size
  rw[Array.size_push]
  omega)
 have HS:Hid (SB U w.heap.size 74 #[.slice xa n cx,lv,.slice (some ⟨hg,0,none⟩) n ch]):=Hi (hS0.below hbU hS0.lt);have HX:=Hi hx;have HTS:=Hi hts;have HXV:=Hi hxv;have HH:=Hi hh;have HHL:=Hi hhl;rw[hU,hG,<-hV] at hmk;clear hx hts hxv hh hhl hV hbv hS0 hMC hU hbU hG;go_enter Tryz.func52,Tryz.ntmps52;go_wp2_with fail;clear d0 k0 k2 hmk;go_loopw [3,12] (fun fv iv wr=>∃(k:Nat) (us:List FE),k<=n/\iv=.int .i64 k/\RB wr G n K (fun i=>if i<k then Cab.x0V (frB hl) x i else 0) us/\IG wr w.heap.size fv (Giv.frs (frB hl) k)/\SB wr w.heap.size 74 #[.slice xa n cx,lv,.slice (some ⟨hg,0,none⟩) n ch]/\Below w.heap.size w wr) (fun _ iv _=>n - (intOf iv).toNat)
 case atStart=>exact⟨0,_,by omega,rfl,HR0.out.eq (fun i hi=>by rw[if_neg (by omega)]),Grow.nil _ _ _ _ _,HS.out,HBU.out⟩
 case round=>
  obtain⟨k,us,hk,rfl,hrb,hig,hsb,hbb⟩:=hrel;have HR:=Hi hrb;have HIG:=Hi hig;have HSB:=Hi hsb;have HB:=Hi hbb;obtain⟨oa,oc,hov,_⟩:=hig.slice;subst hov;clear hrb hig hsb hbb;by_cases hlt:k<n
  ·
   obtain⟨b,hb⟩:∃b,hl[k]?=some b:=⟨hl[k]'(by have:=HHL.out;omega),gE _⟩;have c0:=(HH.out.below HB.out HH.out.lt).boolAt k;rw[hb,Option.map_some] at c0;have k0:=HSB.out.cell 0;have k2:=HSB.out.cell 2;simp only[List.getElem?_toArray,List.getElem?_cons_zero,List.getElem?_cons_succ] at k0 k2;have q1:((k:Int)<(n:Int)):=by omega
   have HFB:=Hi (Qgz hb);have HSU:=Hi (Giv.frs_succ (frB hl) k);clear hb;cases b with
   |true=>
    have HE:Hid (Giv.frs (frB hl) (k+1)=Giv.frs (frB hl) k):=Hi (by rw[HSU.out,if_neg (by rw[HFB.out];decide)]);obtain⟨t,ht⟩:∃t,ts[k]?=some t:=⟨ts[k]'(by have:=HTS.out;omega),gE _⟩;obtain⟨fb,fo,rfl,hfb,t0,t1,t2⟩:=(HX.out.below HB.out).at ht;have hff:FF (x k) K (.agg #[t.x,t.y,t.z]) wr:=by
     rw[<-(HXV.out k t ht).1];exact FF.mono ((HX.out.below HB.out).get ht) (HXV.out k t ht).2
    obtain⟨o1,o2,o3⟩:=hff.1.one;have st0:=Qaa Tryz.prog o1;have st1:=Qaa Tryz.prog o2;have st2:=Qaa Tryz.prog o3;obtain⟨y0,y1,y2,e0,e1,e2,_⟩:=HR.out.at hlt;have f0:=HR.out.blk.blk.free (k*3);have f1:=HR.out.blk.blk.free (k*3+1);have f2:=HR.out.blk.blk.free (k*3+2);have ho3:Only G wr (((wr.setCell ⟨G,k*3,none⟩ t.x).setCell ⟨G,k*3+1,none⟩ t.y).setCell ⟨G,k*3+2,none⟩ t.z):=(((Only.refl G wr).setCell (k*3) t.x).setCell (k*3+1) t.y).setCell (k*3+2) t.z;have HR7:=Hi (HR.out.set hlt hff (fun i=>if i<k+1 then Cab.x0V (frB hl) x i else 0) (fun i=>by
     by_cases e:i=k
     ·
      subst e;rw[if_pos (by omega),if_pos rfl];unfold Cab.x0V;rw[HFB.out];rfl
     ·
      rw[if_neg e];by_cases e2:i<k
      · rw[if_pos (by omega),if_pos e2]
      · rw[if_neg (by omega),if_neg e2]))
    have HI7:=Hi (HIG.out.only HR.out.blk.blk (by decide) ho3);have HS7:=Hi (HSB.out.only ho3 (by have:=HGW.out;omega));have HB7:=Hi (Only.fresh HB.out ho3 (Nat.le_of_lt HGW.out));clear ht o1 o2 o3 hff ho3 HSU;go_wp2;go_roundw
    case rel=>exact⟨k+1,_,by omega,by go_num,HR7.out,by rw[HE.out];exact HI7.out,HS7.out,HB7.out⟩
    case measure=>simp[intOf];omega
   |false=>
    have HE:Hid (Giv.frs (frB hl) (k+1)=Giv.frs (frB hl) k++ [k]):=Hi (by rw[HSU.out,if_pos (by rw[HFB.out];decide)]);obtain⟨Y,hY⟩:=nm (wr.alloc (.cells #[.int .i64 k] 3));have hbY:Below wr.heap.size wr Y:=by rw[<-hY];exact(Below.refl _ _).alloc lZ _
    have hcY:Y.cell? ⟨wr.heap.size,0,none⟩=some (.int .i64 k):=by rw[<-hY];exact Qbt wr _ _
    have hbw:=HB.out.trans (hbY.mono HB.out.size);obtain⟨v',w',happ,hgn,hbn,hgr⟩:=IG.app (Grow.below HIG.out hbY) (x:=k) (nb:=wr.heap.size) (c:=1) hcY (Nat.le_trans (Giv.frs_len _ _) (by omega)) hbw.size 106;have HR7:=Hi (((HR.out.below hbY).grownI (Grow.below HIG.out hbY) hgr).eq (y:=fun i=>if i<k+1 then Cab.x0V (frB hl) x i else 0) (fun i hi=>by
     by_cases e:i=k
     ·
      subst e;rw[if_neg (by omega),if_pos (by omega)];unfold Cab.x0V;rw[HFB.out];rfl
     ·
      by_cases e2:i<k
      · rw[if_pos e2,if_pos (by omega)]
      · rw[if_neg e2,if_neg (by omega)]))
    have HS7:=Hi (Qic (HSB.out.below hbY HSB.out.lt) hgr (IG.apart (Grow.below HIG.out hbY) (HSB.out.below hbY HSB.out.lt) (by decide)));rw[<-hY] at happ;have HGN:=Hi hgn;have HBN:Hid (Below w.heap.size w w'):=Hi (hbw.trans hbn);clear hY hbY hcY hgn hbn hbw hgr HSU;go_wp2;go_roundw
    case rel=>exact⟨k+1,_,by omega,by go_num,HR7.out,by rw[HE.out];exact HGN.out,HS7.out,HBN.out⟩
    case measure=>simp[intOf];omega
  ·
   obtain rfl:k=n:=by omega
   go_wp2;go_ret2;exact⟨G,us,_,rfl,Nat.le_of_lt HGW.out,HR.out.eq (fun i hi=>by rw[if_pos hi]),HIG.out,HB.out⟩
def SdeSays(w:World)(n K KF:Nat)(F:Cab.Mx)(fr:Nat->Bool)(x ld:Vec)(e:Ending)(w':World):Prop:=
 ((e=.returned (.tuple #[.slice none 0 0,.int .i64 8])/\∀X,¬Cab.Lies n F fr x ld X)∨
  (e=.returned (.tuple #[.slice none 0 0,.int .i64 9])/\∃X Y,Cab.Lies n F fr x ld X/\Cab.Lies n F fr x ld Y/\∃i,i<n/\X i≠Y i)∨
  (∃(g:Nat) (us:List FE) (X:Vec),e=.returned (.tuple #[.slice (some ⟨g,0,none⟩) n n,.int .i64 0])/\w.heap.size<=g/\RB w' g n K X us/\Cab.Lies n F fr x ld X/\(∀Y,Cab.Lies n F fr x ld Y->∀i,i<n->Y i=X i)/\∀i,i<n->Fits (X i) KF))/\Below w.heap.size w w'
def sumTo(at_:List Nat)(n:Nat)(F:Cab.Mx)(fr:Nat->Bool)(x ld:Vec)(k:Nat):Vec:=fun i=>if i<k then Cab.sumsV at_ n F fr x ld i else 0
theorem Qmy{at_:List Nat}{F:Cab.Mx}:(List.range at_.length).map (partV at_ at_.length F at_.length 0)=Cab.partR at_ F:=by
 unfold Cab.partR;refine List.map_congr_left fun i hi=>funext fun k=>?_
 unfold partV;have:=List.mem_range.1 hi;by_cases h:k<at_.length
 · rw[if_pos ⟨h,.inl this⟩,if_pos h]
 · rw[if_neg (fun h'=>h h'.1),if_neg h]
theorem RB.sums{w:World}{g N K n:Nat}{us:List FE}{at_:List Nat}{F:Cab.Mx}{fr:Nat->Bool}{x ld:Vec}(h:RB w g N K (sumTo at_ n F fr x ld N) us)(hN:at_.length=N):us.map (·.q)=Cab.partS at_ n F fr x ld:=by
 unfold Cab.partS;apply List.ext_getElem?;intro i;rw[List.getElem?_map,List.getElem?_map];rcases Nat.lt_or_ge i N with hi|hi
 ·
  obtain⟨t,ht⟩:=h.get hi;rw[ht,List.getElem?_range (by omega)]
  show some t.q=some _
  rw[(h.val i t ht).1];unfold sumTo;rw[if_pos hi]
 · rw[List.getElem?_eq_none (by have:=h.len;omega),List.getElem?_eq_none (by simpa [hN] using hi)]
   rfl
theorem Qev{n K1 K2 K3:Nat}{x y:Vec}{u v:Value}{w:World}(h1:RowF n K1 x u w)(h2:RowF n K2 y v w)(hn:n<=1000)(hK:n*(K1+K2+1)+1<=K3)(hK3:K3<68719476000):Calls Tryz.prog 53 #[u,v] w (Makes w (FF (dot n x y) K3)):=by
 obtain⟨a,cap,ts,rfl,hq,hl,hv⟩:=h1;obtain⟨a',cap',ss,rfl,hq',hl',hv'⟩:=h2;have h:=Qo7 a a' cap cap' n n K1 K2 ts ss w hq hq' hl hl' lZ hn (fun t ht=>by
  obtain⟨i,hi⟩:=List.getElem?_of_mem ht
  exact(hv i t hi).2) (fun t ht=>by
  obtain⟨i,hi⟩:=List.getElem?_of_mem ht
  exact(hv' i t hi).2) (by omega)
 have e:dot n (qAt ts) (qAt ss)=dot n x y:=Qae n _ _ _ _ (fun c hc=>by
  obtain⟨t,ht⟩:∃t,ts[c]?=some t:=⟨ts[c]'(by omega),gE _⟩;obtain⟨s,hs⟩:∃s,ss[c]?=some s:=⟨ss[c]'(by omega),gE _⟩
  rw[Qa7 ht,Qa7 hs,(hv c t ht).1,(hv' c s hs).1])
 rw[e] at h;exact h.mono fun e w' ⟨v,he,hb,hf⟩=>⟨v,he,hb,hf.mono hK⟩
theorem GA.rowF{u:World}{B G W K r g:Nat}{gs:List Nat}{M:Nat->Nat->Rat}(h:GA u B G W K gs M)(hr:gs[r]?=some g):RowF W K (M r) (.slice (some ⟨g,0,none⟩) W W) u:=by
 obtain⟨us,h1,h2,h3⟩:=h.gm.row r g hr;exact⟨_,W,us,rfl,by have:=h1.row;rw[h2] at this;exact this,h2,h3⟩
theorem Qg0{n KF e:Nat}(hn:n<=10)(hK:KF<=403000000)(he:6000000<=e):n*(KF+4194305+1)+1<=4071943061/\200000000+4071943061<68719476000/\200000000+4071943061+1<=kW e:=by
 obtain⟨Z,hZ⟩:=nm (KF+4194305+1);rw[hZ];have h1:n*Z<=10*Z:=Nat.mul_le_mul_right _ hn;refine⟨by omega,by omega,?_⟩;simp only[kW,kC];omega
theorem RB.qrow{w:World}{g n K:Nat}{x:Vec}{us:List FE}(h:RB w g n K x us):QRow w (some ⟨g,0,none⟩) n us:=by
 have:=h.blk.row;rw[h.len] at this;exact this
section
variable {n N e P:Nat} {F:Cab.Mx} {fr:Nat->Bool} {x ld:Vec} {at_:List Nat}
theorem Qmz(hat:at_=Giv.frs fr n)(hN:at_.length=N){y:Vec}(hy:Sol N (Cab.partR at_ F) (Cab.partS at_ n F fr x ld) y)(hu:∀Y,Sol N (Cab.partR at_ F) (Cab.partS at_ n F fr x ld) Y->∀i,i<N->Y i=y i):
 Cab.Lies n F fr x ld (motTo at_ y (Cab.x0V fr x) N)/\(∀Y,Cab.Lies n F fr x ld Y->∀i,i<n->Y i=motTo at_ y (Cab.x0V fr x) N i)/\∀KF,(∀i,i<N->Fits (y i) KF)->(∀i,i<n->Fits (x i) KF)->∀i,i<n->Fits (motTo at_ y (Cab.x0V fr x) N i) KF:=by
 subst hN;have hnd:=Cab.at_nodup hat;have hheld:∀i,i<n->fr i=false->motTo at_ y (Cab.x0V fr x) at_.length i=x i:=fun i hi hf=>by
  rw[Qj3 (fun hm=>by
   rw[hat] at hm;rw[(Giv.frs_mem.1 hm).2] at hf
   cases hf) at_.length lZ]
  unfold Cab.x0V;rw[hf];rfl
 have hfree:∀j,j<at_.length->motTo at_ y (Cab.x0V fr x) at_.length (at_.getD j 0)=y j:=fun j hj=>Qj4 hnd at_.length lZ hj
 have hin:∀i,i<n->fr i=true->∃j,j<at_.length/\at_.getD j 0=i:=fun i hi hf=>by
  have hm:i∈ at_:=by rw[hat];exact Giv.frs_mem.2 ⟨hi,hf⟩
  obtain⟨j,hj,e⟩:=List.getElem_of_mem hm;exact⟨j,hj,by rw[List.getD_eq_getElem?_getD,gE hj,e];rfl⟩
 refine⟨(Cab.lies_sol hat hheld).1 (fun i r v hr hv=>?_),fun Y hY i hi=>?_,fun KF h1 h2 i hi=>?_⟩
 · rw[<-hy i r v hr hv]
   exact Qae _ _ _ _ _ (fun j hj=>by rw[hfree j hj])
 ·
  cases hf:fr i with
  |false=>rw[hY.1 i hi hf,hheld i hi hf]
  |true=>
   obtain⟨j,hj,rfl⟩:=hin i hi hf;rw[hfree j hj];exact hu _ ((Cab.lies_sol hat hY.1).2 hY) j hj
 ·
  cases hf:fr i with
  |false=>rw[hheld i hi hf];exact h2 i hi
  |true=>
   obtain⟨j,hj,rfl⟩:=hin i hi hf;rw[hfree j hj];exact h1 j hj
theorem Qm0(hat:at_=Giv.frs fr n)(hN:at_.length=N)(h:∀y,¬Sol N (Cab.partR at_ F) (Cab.partS at_ n F fr x ld) y):∀X,¬Cab.Lies n F fr x ld X:=fun X hX=>by
 subst hN;exact h _ ((Cab.lies_sol hat hX.1).2 hX)
theorem Qm1(hat:at_=Giv.frs fr n)(hN:at_.length=N)(h:∃y z,Sol N (Cab.partR at_ F) (Cab.partS at_ n F fr x ld) y/\Sol N (Cab.partR at_ F) (Cab.partS at_ n F fr x ld) z/\∃c,c<N/\y c≠z c):∃X Y,Cab.Lies n F fr x ld X/\Cab.Lies n F fr x ld Y/\∃i,i<n/\X i≠Y i:=by
 subst hN;obtain⟨y,z,hy,hz,c,hc,hne⟩:=h;exact⟨_,_,Cab.sol_lies hat hy,Cab.sol_lies hat hz,at_.getD c 0,(Cab.at_get hat hc).1,by rw[Cab.exV_at hat y hc,Cab.exV_at hat z hc];exact hne⟩
end
set_option maxRecDepth 100000 in
set_option maxHeartbeats 4000000 in
theorem Qm2(n hg cx cl ch GI BI e P KF KT:Nat)(xa la:Option Addr)(gi:List Nat)(F:Cab.Mx)(x ld:Vec)(ts ls:List FE)(hl:List Bool)(at_:List Nat)(w:World)(hx:QRow w xa cx ts)(hts:ts.length=n)(hxv:∀(c:Nat) (t:FE),ts[c]?=some t->t.q=x c/\t.k<=4194305)(hla:QRow w la cl ls)(hls:ls.length=n)(hlv:∀(c:Nat) (t:FE),ls[c]?=some t->t.q=ld c/\t.k<=200000000)
 (hh:SB w hg 4 (boolsV hl).toArray) (hhl:hl.length=n) (hn:n<=10) (hf:GA w BI GI n KF gi F) (hgi:gi.length=n) (hat:at_=Giv.frs (frB hl) n) (hKF:0<KF/\KF<=403000000) (hP:0<P) (hPe:P<=2 ^ e) (hF:∀i c,i<n->c<n->Wh P e (F i c)) (hS:∀i,i<at_.length->Wh P e (Cab.sumsV at_ n F (frB hl) x ld i)) (e1:6000000<=e) (e2:e<=16000000) (hxf:∀i,i<n->Fits (x i) (kC e)):
 Calls Tryz.prog 27 #[.agg #[.slice xa n cx,.slice la n cl,.slice (some ⟨hg,0,none⟩) n ch],.slice (some ⟨GI,0,none⟩) n n] w (SdeSays w n (kW e) (kC e) F (frB hl) x ld):=by
 obtain⟨B0,hB0⟩:=nm w.heap.size;obtain⟨V,hV⟩:=nm (w.alloc (.cells #[.slice xa n cx,.slice la n cl,.slice (some ⟨hg,0,none⟩) n ch] 74));have hbv:Below w.heap.size w V:=by rw[<-hV];exact(Below.refl _ _).alloc lZ _
 have hS0:SB V B0 74 #[.slice xa n cx,.slice la n cl,.slice (some ⟨hg,0,none⟩) n ch]:=by rw[<-hV,<-hB0];exact SB.new w _ _
 have HKP:=Hi (Qmt n 4194305 hg cx cl ch xa (.slice la n cl) x ts hl V (hx.below hbv) hts hxv (hh.below hbv hh.lt) hhl rfl (by omega) (by decide));have HS0:=Hi hS0;have HBV:=Hi hbv;have HVE:=Hi hV;have HB0:=Hi hB0;have HLA:=Hi hla;have HLS:=Hi hls;have HLV:=Hi hlv;have HF:=Hi hf;have HGI:=Hi hgi;have HAT:=Hi hat;have HKF:=Hi hKF;have HPP:=Hi (And.intro hP hPe);have HFW:=Hi hF;have HSW:=Hi hS;have HXF:=Hi hxf;have HE:=Hi (And.intro e1 e2);clear hx hts hxv hh hhl hbv hV hS0 hB0 hla hls hlv hf hgi hat hKF hP hPe hF hS hxf e1 e2;go_enter Tryz.func27,Tryz.ntmps27;go_wp2_with fail;rw[HVE.out,HB0.out];go_fit HKP.out;rintro e' w1 ⟨G,us,fv,rfl,hGl,hrb,hig,hb1⟩;rw[<-HAT.out] at hig;obtain⟨fa,fc,rfl,hfr⟩:=hig.slice;obtain⟨N,hN⟩:=nm at_.length;rw[hN];have hN10:N<=10:=by
  have:=Giv.frs_len (frB hl) n;rw[<-HAT.out,hN] at this;omega
 have hmk:=Qa6 N (by omega) w1;obtain⟨MC,hMC⟩:=nm (((List.replicate N FE.zero).flatMap FE.cells).toArray);rw[hMC] at hmk;obtain⟨U,hU⟩:=nm (w1.alloc (.cells MC 103));have hbU:Below w1.heap.size w1 U:=by rw[<-hU];exact(Below.refl _ _).alloc lZ _
 obtain⟨GS,hGS⟩:=nm w1.heap.size;have HR0:Hid (RB U GS N (kW e) (fun _=>0) (List.replicate N FE.zero)):=Hi (by rw[<-hU,<-hGS];exact RB.new w1 N (kW e) MC hMC.symm (by simp only[kW,kC];omega));have HRA:=Hi (hrb.below hbU);have HFR:=Hi (hfr.below hbU);have HB1:=Hi (HBV.out.trans ((hb1.trans (hbU.mono hb1.size)).mono HBV.out.size));have HBX1:=Hi ((HS0.out.below hb1 HS0.out.lt).below hbU (HS0.out.below hb1 HS0.out.lt).lt);have HGA:Hid (G<GS/\w.heap.size<=G/\V.heap.size<=G/\B0<GS):=Hi (by have:=hrb.blk.blk.lt;have:=HBV.out.size;have:=(HS0.out.below hb1 HS0.out.lt).lt;omega);have HN:=Hi hN;rw[hU,hGS] at hmk;clear hU hGS hMC hbU hb1 hrb hfr hig hN HKP HVE;go_wp2_with fail;clear hmk
 go_loopw [25] (fun iv wr=>∃(k:Nat) (us us':List FE),k<=N/\iv=.int .i64 k/\RB wr GS N (kW e) (sumTo at_ n F (frB hl) x ld k) us/\RB wr G n 4194305 (Cab.x0V (frB hl) x) us'/\CRow wr fa (at_.map (fun n:Nat=>Value.int .i64 n))/\SB wr B0 74 #[.slice xa n cx,.slice la n cl,.slice (some ⟨hg,0,none⟩) n ch]/\Below w.heap.size w wr) (fun iv _=>N - (intOf iv).toNat)
 case atStart=>exact⟨0,_,_,by omega,rfl,HR0.out.eq (fun i hi=>by unfold sumTo;rw[if_neg (by omega)]),HRA.out,HFR.out,HBX1.out,HB1.out⟩
 case round=>
  obtain⟨k,us2,us3,hk,rfl,hrs,hra,hfr,hbx,hbb⟩:=hrel;by_cases hlt:k<N
  ·
   obtain⟨j,hj⟩:∃j,at_[k]?=some j:=⟨at_[k]'(by have:=HN.out;omega),gE _⟩;obtain⟨fb,fo,rfl,hfb,c0⟩:=Qd2 hfr hj;have hjn:j<n:=by
    have:=mO hj;rw[HAT.out] at this;exact(Giv.frs_mem.1 this).1
   have hgd:at_.getD k 0=j:=by rw[List.getD_eq_getElem?_getD,hj];rfl
   have hdr:Below wr.heap.size wr wr.drew:=bR.drew;have HB:=Hi (hbb.trans (hdr.mono hbb.size));obtain⟨t,ht⟩:∃t,ls[j]?=some t:=⟨ls[j]'(by have:=HLS.out;omega),gE _⟩;obtain⟨lb,lo,hle,hlb,t0,t1,t2⟩:=(HLA.out.below HB.out).at ht;have HLF:Hid (FF (ld j) 200000000 (.agg #[t.x,t.y,t.z]) wr.drew):=Hi (by
    rw[<-(HLV.out j t ht).1]
    exact FF.mono ((HLA.out.below HB.out).get ht) (HLV.out j t ht).2)
   obtain⟨gj,hgj⟩:∃g,gi[j]?=some g:=⟨gi[j]'(by have:=HGI.out;omega),gE _⟩;have hga:=HF.out.below HB.out;have HFRW:=Hi (hga.rowF hgj);have HGC:=Hi (hga.gm.cell hgj);have HGL:=Hi hga.hi;have HL0:=Hi t0;have HL1:=Hi t1;have HL2:=Hi t2;have HLL:=Hi hlb;have HBX:=Hi (hbx.below hdr hbx.lt);have HRS:=Hi (hrs.below hdr);have HRQ:=Hi (hra.below hdr);have HFR2:=Hi (hfr.below hdr);have HGD:=Hi hgd;have HN1000:Hid (n<=1000):=Hi (by omega);have HKB2:Hid (4071943061<68719476000):=Hi (by omega);have HKB:=Hi (Qg0 hn HKF.out.2 HE.out.1);have q1:((k:Int)<(N:Int)):=by omega
   have q2:((j:Int)<(n:Int)):=by omega
   subst hle;clear hrs hra hfr hbx hbb hj ht t0 t1 t2 hlb hgj hga hdr hgd;go_wp2_with fail;clear c0;refine RegG.bg 15 (fun j=>some (30+j)) ?_;refine RegG.p0 [] ?_;refine RegG.p0 [] ?_;refine RegG.p0 [] ?_;refine RegG.pu (c:=?_) [2] (fun w hb=>?_) ?_;rotate_left
   ·
    intro K hK;have hbx:=HBX.out.below hb HBX.out.lt;have d0:w.cell? ⟨B0,1,none⟩=some (.slice (some ⟨lb,lo,none⟩) n cl):=by
     have h:=hbx.cell 1
     simpa using h
    clear hbx;go_simp;exact hK
   refine RegG.p0 [] ?_;refine RegG.p0 [3,4] ?_;refine RegG.pu (c:=?_) [5] (fun w hb=>?_) ?_;rotate_left
   ·
    intro K hK;have d0:=ce hb HLL.out HL0.out;have d1:=ce hb HLL.out HL1.out;have d2:=ce hb HLL.out HL2.out;go_simp;exact hK
   refine RegG.p0 [] ?_;refine RegG.p0 [] ?_;refine RegG.p0 [7,8] ?_;refine RegG.pu (c:=?_) [9] (fun w hb=>?_) ?_;rotate_left
   ·
    intro K hK;have d0:=ce hb HGL.out HGC.out;go_simp;exact hK
   refine RegG.p0 [] ?_;refine RegG.ca (φ:=FF (dot n (F j) (Cab.x0V (frB hl) x)) 4071943061) [10,11] (FF.stays _ _) (fun w hb=>?_) ?_
   ·
    skip;intro K hK;go_simp;exact Makes.use (Qev (HFRW.out.below hb) ((HRQ.out.below hb).rowF) HN1000.out HKB.out.1 HKB2.out) hK
   refine RegG.ca (φ:=FF (ld j - dot n (F j) (Cab.x0V (frB hl) x)) (200000000+4071943061+1)) [6,12] (FF.stays _ _) (fun w hb=>?_) ?_
   ·
    intro v12 h12;intro K hK;go_simp;exact Makes.use ((HLF.out.below hb).minus h12 HKB.out.2.1) hK
   refine RegG.p0 [0,1] ?_;refine RegG.last (by simp only[List.nil_append,List.cons_append,List.length_append,List.length_cons,List.length_nil,Nat.reduceAdd]) (by rfl) (by rfl) (by kernel_rfl) (fun x6 hb=>?_);simp only[FinG,List.nil_append,List.cons_append,Qaf,Act.put,List.setIfInBounds_toArray,List.set_cons_zero,List.set_cons_succ,Nat.reduceAdd,Nat.reduceBEq,cond_true,cond_false];intro v12 _ v13 h13 K6 hK6;obtain⟨x',y',z',rfl⟩:=h13.parts;obtain⟨o1,o2,o3⟩:=h13.1.one;have st0:=Qaa Tryz.prog o1;have st1:=Qaa Tryz.prog o2;have st2:=Qaa Tryz.prog o3;have hrx:=HRS.out.below hb;obtain⟨y0,y1,y2,c0,c1,c2,_⟩:=hrx.at hlt;have f0:=hrx.blk.blk.free (k*3);have f1:=hrx.blk.blk.free (k*3+1);have f2:=hrx.blk.blk.free (k*3+2);have ho:Only GS x6 (((x6.setCell ⟨GS,k*3,none⟩ x').setCell ⟨GS,k*3+1,none⟩ y').setCell ⟨GS,k*3+2,none⟩ z'):=(((Only.refl GS x6).setCell (k*3) x').setCell (k*3+1) y').setCell (k*3+2) z'
   have HR8:=Hi (hrx.set hlt (FF.mono h13 HKB.out.2.2) (sumTo at_ n F (frB hl) x ld (k+1)) (fun i=>by
    unfold sumTo;by_cases e:i=k
    ·
     subst e;rw[if_pos (by omega),if_pos rfl];unfold Cab.sumsV;rw[HGD.out]
    ·
     rw[if_neg e];by_cases e2:i<k
     · rw[if_pos (by omega),if_pos e2]
     · rw[if_neg (by omega),if_neg e2]))
   have HA8:=Hi ((HRQ.out.below hb).only hrx ho (by have:=HGA.out;omega));have HF8:=Hi ((HFR2.out.below hb).ints hrx ho);have HX8:=Hi ((HBX.out.below hb HBX.out.lt).only ho (by have:=HGA.out;omega));have HB8:=Hi (Only.fresh (HB.out.trans (hb.mono HB.out.size)) ho (by have:=HGA.out;omega));clear o1 o2 o3 hrx h13 hb ho;go_simp;refine hK6 _ _ ?_;clear hK6 c0 c1 c2 f0 f1 f2 st0 st1 st2;go_wp2;go_roundw
   case rel=>exact⟨k+1,_,_,by omega,by go_num,HR8.out,HA8.out,HF8.out,HX8.out,HB8.out⟩
   case measure=>simp[intOf];omega
  ·
   obtain rfl:k=N:=by omega
   have hN:=HN.out;have HPT:=Hi (Qrl GI BI n KF k n gi F fa fc at_ wr (HF.out.below hbb) HGI.out hfr hN (fun r hr=>by
    rw[HAT.out] at hr
    exact⟨(Giv.frs_mem.1 hr).1,(Giv.frs_mem.1 hr).1⟩) (by omega) HKF.out.1)
   have HRS:=Hi hrs;have HRA2:=Hi hra;have HFR2:=Hi hfr;have HBB:=Hi hbb;clear hrs hra hfr hbx hbb;go_wp2_with fail;go_fit HPT.out;rintro e' w2 ⟨G2,gs2,rfl,hgl2,hgm⟩;have hb2:=hgm.base;obtain⟨rs,hrl,hqm,_,hks,hmap⟩:=hgm.rows (fun r c hc=>by unfold partV;rw[if_neg (fun h=>by omega)]);rw[hgl2] at hrl hqm hmap;have hmap2:rs.map MR.q=Cab.partR at_ F:=by
    rw[hmap,<-Qmy,hN]
   have hsum:=(HRS.out.below hb2).sums hN;obtain⟨hgo,hst,hen⟩:=Qn4 (b:=e) (W:=k+1) (P:=P) (M:=List.zipWith (wider k) (Cab.partR at_ F) (Cab.partS at_ n F (frB hl) x ld)) HPP.out.1 HPP.out.2 (by
    have h:=Cab.part_wide HAT.out HFW.out HSW.out;rw[hN] at h
    exact h) (by
    have h:=Cab.part_high (n:=n) (F:=F) (fr:=frB hl) (x:=x) (ld:=ld) (at_:=at_);rw[hN] at h
    exact h) (.inr (by omega))
   have hso:=Qus (some ⟨G2,0,none⟩) (some ⟨GS,0,none⟩) k k k (kW e) rs us2 w2 (MJ (k+1) 20 (kC e) (List.zipWith (wider k) (Cab.partR at_ F) (Cab.partS at_ n F (frB hl) x ld))) (hgo.mono (by simp only[kE,kW,kC];omega)) hqm (fun r hr t ht=>Nat.le_trans (hks r hr t ht) (by have:=HKF.out.2;have:=HE.out.1;simp only[kW,kC];omega)) ((HRS.out.below hb2).qrow) (fun t ht=>by
    obtain⟨i,hi⟩:=List.getElem?_of_mem ht
    exact(HRS.out.val i t hi).2) (by rw[HRS.out.len,hrl]) (by omega) (by omega) (by simp only[kW,kC];omega) (by have:=HE.out.2;simp only[kW,kC];omega) (by rw[hmap2,hsum];exact hst) (fun L S hs hi=>by
    rw[hmap2,hsum]
    exact⟨(hen L S hs hi).1.1,(hen L S hs hi).1.2,(hen L S hs hi).2.1⟩)
   rw[hrl,hmap2,hsum] at hso;have HSO:=Hi hso;have HGO:=Hi (And.intro hgo (And.intro hst hen));have HB2:=Hi (HBB.out.trans (hb2.mono HBB.out.size));have HRA3:=Hi ((HRA2.out.below hb2).mono (K':=kW e) (by have:=HE.out.1;simp only[kW,kC];omega));have HFR3:=Hi (HFR2.out.below hb2);have HGG:Hid (G<w2.heap.size):=Hi HRA3.out.blk.blk.lt;clear hgm hb2 hqm hks hmap hmap2 hsum hgo hst hen hso hrl hN HPT;go_wp2_with fail;go_fit HSO.out;rintro e' w3 ⟨hcs,hb3⟩;have HB3:=Hi (HB2.out.trans (hb3.mono HB2.out.size));have HRA4:=Hi (HRA3.out.below hb3);have HFR4:=Hi (HFR3.out.below hb3);clear hb3 HSO;rcases hcs with ⟨rfl,hno⟩|⟨rfl,hfe⟩|⟨g,ux,rfl,hgl,hqb,hul,hku,hiff⟩
   ·
    have HNO:=Hi (Qm0 HAT.out HN.out hno);clear hno;go_wp2;go_ret2;exact⟨.inl ⟨rfl,HNO.out⟩,HB3.out⟩
   ·
    have HNO:=Hi (Qm1 HAT.out HN.out hfe);clear hfe;go_wp2;go_ret2;exact⟨.inr (.inl ⟨rfl,HNO.out⟩),HB3.out⟩
   ·
    have hsol:Sol k (Cab.partR at_ F) (Cab.partS at_ n F (frB hl) x ld) (qAt ux):=(hiff _).2 (fun i t ht=>Qa7 ht);have hun:∀Y,Sol k (Cab.partR at_ F) (Cab.partS at_ n F (frB hl) x ld) Y->∀i,i<k->Y i=qAt ux i:=fun Y hY i hi=>by
     obtain⟨t,ht⟩:∃t,ux[i]?=some t:=⟨ux[i]'(by omega),gE _⟩;rw[(hiff Y).1 hY i t ht,Qa7 ht]
    have hyf:=Qrj HGO.out.1 HGO.out.2.1 (fun L S hs hi=>⟨(HGO.out.2.2 L S hs hi).1,(HGO.out.2.2 L S hs hi).2.2⟩) hsol hun;obtain⟨hly,hlu,hlf⟩:=Qmz HAT.out HN.out hsol hun;have HLY:=Hi hly;have HLU:=Hi hlu;have HLF:=Hi (hlf (kC e) hyf HXF.out);have HXR:Hid (RB w3 g k (kW e) (qAt ux) ux):=Hi ⟨hqb,hul,fun i t ht=>⟨(Qa7 ht).symm,hku t (mO ht)⟩⟩;have HGN:Hid (G≠g/\w.heap.size<=G):=Hi (by have:=HGG.out;have:=HGA.out;omega);clear hiff hsol hun hyf hly hlu hlf hqb hul hku hgl HGO;go_wp2_with fail;go_loopw [61] (fun iv wr=>∃(j:Nat) (us':List FE),j<=k/\iv=.int .i64 j/\RB wr G n (kW e) (motTo at_ (qAt ux) (Cab.x0V (frB hl) x) j) us'/\RB wr g k (kW e) (qAt ux) ux/\CRow wr fa (at_.map (fun n:Nat=>Value.int .i64 n))/\Below w.heap.size w wr) (fun iv _=>k - (intOf iv).toNat)
    case atStart=>exact⟨0,_,by omega,rfl,HRA4.out,HXR.out,HFR4.out,HB3.out⟩
    case round=>
     obtain⟨j,us',hj,rfl,hra,hrx,hfr,hbb⟩:=hrel;by_cases hlt:j<k
     ·
      obtain⟨i,hi⟩:∃i,at_[j]?=some i:=⟨at_[j]'(by have:=HN.out;omega),gE _⟩;obtain⟨fb,fo,rfl,hfb,c0⟩:=Qd2 hfr hi;have hin:i<n:=by
       have:=mO hi;rw[HAT.out] at this;exact(Giv.frs_mem.1 this).1
      have hgd:at_.getD j 0=i:=by rw[List.getD_eq_getElem?_getD,hi];rfl
      obtain⟨t,ht⟩:=hrx.get hlt;obtain⟨d0,d1,d2⟩:=hrx.cells ht;have hff:=hrx.fe ht;obtain⟨o1,o2,o3⟩:=hff.1.one;have st0:=Qaa Tryz.prog o1;have st1:=Qaa Tryz.prog o2;have st2:=Qaa Tryz.prog o3;obtain⟨y0,y1,y2,e0,e1,e2,_⟩:=hra.at hin;have f0:=hra.blk.blk.free (i*3);have f1:=hra.blk.blk.free (i*3+1);have f2:=hra.blk.blk.free (i*3+2);have ho3:Only G wr (((wr.setCell ⟨G,i*3,none⟩ t.x).setCell ⟨G,i*3+1,none⟩ t.y).setCell ⟨G,i*3+2,none⟩ t.z):=(((Only.refl G wr).setCell (i*3) t.x).setCell (i*3+1) t.y).setCell (i*3+2) t.z;have HR7:=Hi (hra.set hin hff (motTo at_ (qAt ux) (Cab.x0V (frB hl) x) (j+1)) (fun r=>by
       show (if r=at_.getD j 0 then qAt ux j else motTo at_ (qAt ux) (Cab.x0V (frB hl) x) j r)=_
       rw[hgd]))
      have HX7:=Hi (hrx.only hra ho3 (fun e=>HGN.out.1 e.symm));have HF7:=Hi (hfr.ints hra ho3);have HB7:=Hi (Only.fresh hbb ho3 HGN.out.2);have q1:((j:Int)<(k:Int)):=by omega
      have q2:((i:Int)<(n:Int)):=by omega
      clear ht o1 o2 o3 hff ho3 hra hrx hfr hbb hi hgd;go_wp2;go_roundw
      case rel=>exact⟨j+1,_,by omega,by go_num,HR7.out,HX7.out,HF7.out,HB7.out⟩
      case measure=>simp[intOf];omega
     ·
      obtain rfl:j=k:=by omega
      have HRF:=Hi hra;have HBF:=Hi hbb;clear hra hrx hfr hbb;go_wp2;go_ret2;exact⟨.inr (.inr ⟨G,us',_,rfl,HGN.out.2,HRF.out,HLY.out,HLU.out,HLF.out⟩),HBF.out⟩
def sdV(n ga gl gh:Nat):List Value:=[.slice (some ⟨ga,0,none⟩) n n,.slice (some ⟨gl,0,none⟩) n n,.slice (some ⟨gh,0,none⟩) n n]
structure SdD (B S bx cx ga gl gh ga' gl' gh':Nat):Prop where
 d1:ga≠gl
 d2:ga'≠gl'
 d3:ga≠ga'/\ga≠gl'/\gl≠ga'/\gl≠gl'/\gh≠gh'
 lo:B<=ga/\B<=gl/\B<=gh/\B<=ga'/\B<=gl'/\B<=gh'
structure SdS (w u:World) (F:Array Value) (n S bx cx ga gl gh ga' gl' gh' KL:Nat) (X LX:Vec) (hx:List Bool) (Y LY:Vec) (hy:List Bool):Prop where
 base:Below w.heap.size w u
 fb:SB u w.heap.size 26 F
 rb:SB u (w.heap.size+1) 75 #[.slice none 0 0,.slice none 0 0,.slice none 0 0,.slice none 0 0,.slice none 0 0,.slice none 0 0]
 s:SB u S 75 (sdV n ga gl gh++sdV n ga' gl' gh').toArray
 bx:SB u bx 74 (sdV n ga gl gh).toArray
 cx:SB u cx 74 (sdV n ga' gl' gh').toArray
 xa:∃us,RB u ga n 4194305 X us
 xl:∃us,RB u gl n KL LX us
 xh:SB u gh 4 (boolsV hx).toArray
 ya:∃us,RB u ga' n 4194305 Y us
 yl:∃us,RB u gl' n KL LY us
 yh:SB u gh' 4 (boolsV hy).toArray
theorem RB.ex{u u':World}{g n K g' n' K':Nat}{x y:Vec}{vs:List FE}(h:∃us,RB u g n K x us)(h':RB u g' n' K' y vs)(ho:Only g' u u')(hne:g≠g'):∃us,RB u' g n K x us:=by
 obtain⟨us,h⟩:=h;exact⟨us,h.only h' ho hne⟩
theorem Qnj(l:List Bool):NoU64 (boolsV l).toArray:=fun i n=>by
 rw[List.getElem?_toArray];unfold boolsV;rw[List.getElem?_map];cases l[i]?<;>simp
theorem RB.exB{u u':World}{g n K g':Nat}{x:Vec}{l:List Bool}(h:∃us,RB u g n K x us)(h':SB u g' 4 (boolsV l).toArray)(ho:Only g' u u'):∃us,RB u' g n K x us:=by
 obtain⟨us,h⟩:=h;have hne:g≠g':=h.blk.blk.unlike h' (by decide);refine⟨us,⟨h.blk.blk.only ho hne,fun t ht=>⟨(h.blk.ts t ht).1.only ho h' (Qnj l),(h.blk.ts t ht).2⟩⟩,h.len,h.val⟩
section
variable {w u u':World} {n S bx cx ga gl gh ga' gl' gh' KL B:Nat} {X LX Y LY Z:Vec} {hx hy:List Bool} {F:Array Value}
theorem SdS.below(h:SdS w u F n S bx cx ga gl gh ga' gl' gh' KL X LX hx Y LY hy)(hb:Below u.heap.size u u'):SdS w u' F n S bx cx ga gl gh ga' gl' gh' KL X LX hx Y LY hy:=by
 obtain⟨h1,hf,hr,h2,h3,h4,⟨x1,h5⟩,⟨x2,h6⟩,h7,⟨x3,h8⟩,⟨x4,h9⟩,h10⟩:=h;exact⟨h1.trans (hb.mono h1.size),hf.below hb hf.lt,hr.below hb hr.lt,h2.below hb h2.lt,h3.below hb h3.lt,h4.below hb h4.lt,⟨x1,h5.below hb⟩,⟨x2,h6.below hb⟩,h7.below hb h7.lt,⟨x3,h8.below hb⟩,⟨x4,h9.below hb⟩,h10.below hb h10.lt⟩
theorem SdS.wrXa(h:SdS w u F n S bx cx ga gl gh ga' gl' gh' KL X LX hx Y LY hy)(hd:SdD w.heap.size S bx cx ga gl gh ga' gl' gh')(ho:Only ga u u')(hn:∃us,RB u' ga n 4194305 Z us):SdS w u' F n S bx cx ga gl gh ga' gl' gh' KL Z LX hx Y LY hy:=by
 obtain⟨h1,hf,hr,h2,h3,h4,⟨x1,h5⟩,h6,h7,h8,h9,h10⟩:=h;have hb:=h5.blk.blk;exact⟨Only.fresh h1 ho hd.lo.1,hf.only ho (hf.unlike hb (by decide)),hr.only ho (hr.unlike hb (by decide)),h2.only ho (h2.unlike hb (by decide)),h3.only ho (h3.unlike hb (by decide)),h4.only ho (h4.unlike hb (by decide)),hn,RB.ex h6 h5 ho hd.d1.symm,h7.only ho (h7.unlike hb (by decide)),RB.ex h8 h5 ho hd.d3.1.symm,RB.ex h9 h5 ho hd.d3.2.1.symm,h10.only ho (h10.unlike hb (by decide))⟩
theorem SdS.wrXl(h:SdS w u F n S bx cx ga gl gh ga' gl' gh' KL X LX hx Y LY hy)(hd:SdD w.heap.size S bx cx ga gl gh ga' gl' gh')(ho:Only gl u u')(hn:∃us,RB u' gl n KL Z us):SdS w u' F n S bx cx ga gl gh ga' gl' gh' KL X Z hx Y LY hy:=by
 obtain⟨h1,hf,hr,h2,h3,h4,h5,⟨x1,h6⟩,h7,h8,h9,h10⟩:=h;have hb:=h6.blk.blk;exact⟨Only.fresh h1 ho hd.lo.2.1,hf.only ho (hf.unlike hb (by decide)),hr.only ho (hr.unlike hb (by decide)),h2.only ho (h2.unlike hb (by decide)),h3.only ho (h3.unlike hb (by decide)),h4.only ho (h4.unlike hb (by decide)),RB.ex h5 h6 ho hd.d1,hn,h7.only ho (h7.unlike hb (by decide)),RB.ex h8 h6 ho hd.d3.2.2.1.symm,RB.ex h9 h6 ho hd.d3.2.2.2.1.symm,h10.only ho (h10.unlike hb (by decide))⟩
theorem SdS.wrYa(h:SdS w u F n S bx cx ga gl gh ga' gl' gh' KL X LX hx Y LY hy)(hd:SdD w.heap.size S bx cx ga gl gh ga' gl' gh')(ho:Only ga' u u')(hn:∃us,RB u' ga' n 4194305 Z us):SdS w u' F n S bx cx ga gl gh ga' gl' gh' KL X LX hx Z LY hy:=by
 obtain⟨h1,hf,hr,h2,h3,h4,h5,h6,h7,⟨x1,h8⟩,h9,h10⟩:=h;have hb:=h8.blk.blk;exact⟨Only.fresh h1 ho hd.lo.2.2.2.1,hf.only ho (hf.unlike hb (by decide)),hr.only ho (hr.unlike hb (by decide)),h2.only ho (h2.unlike hb (by decide)),h3.only ho (h3.unlike hb (by decide)),h4.only ho (h4.unlike hb (by decide)),RB.ex h5 h8 ho hd.d3.1,RB.ex h6 h8 ho hd.d3.2.2.1,h7.only ho (h7.unlike hb (by decide)),hn,RB.ex h9 h8 ho hd.d2.symm,h10.only ho (h10.unlike hb (by decide))⟩
theorem SdS.wrYl(h:SdS w u F n S bx cx ga gl gh ga' gl' gh' KL X LX hx Y LY hy)(hd:SdD w.heap.size S bx cx ga gl gh ga' gl' gh')(ho:Only gl' u u')(hn:∃us,RB u' gl' n KL Z us):SdS w u' F n S bx cx ga gl gh ga' gl' gh' KL X LX hx Y Z hy:=by
 obtain⟨h1,hf,hr,h2,h3,h4,h5,h6,h7,h8,⟨x1,h9⟩,h10⟩:=h;have hb:=h9.blk.blk;exact⟨Only.fresh h1 ho hd.lo.2.2.2.2.1,hf.only ho (hf.unlike hb (by decide)),hr.only ho (hr.unlike hb (by decide)),h2.only ho (h2.unlike hb (by decide)),h3.only ho (h3.unlike hb (by decide)),h4.only ho (h4.unlike hb (by decide)),RB.ex h5 h9 ho hd.d3.2.1,RB.ex h6 h9 ho hd.d3.2.2.2.1,h7.only ho (h7.unlike hb (by decide)),RB.ex h8 h9 ho hd.d2,hn,h10.only ho (h10.unlike hb (by decide))⟩
theorem SdS.wrXh{l:List Bool}(h:SdS w u F n S bx cx ga gl gh ga' gl' gh' KL X LX hx Y LY hy)(hd:SdD w.heap.size S bx cx ga gl gh ga' gl' gh')(ho:Only gh u u')(hn:SB u' gh 4 (boolsV l).toArray):SdS w u' F n S bx cx ga gl gh ga' gl' gh' KL X LX l Y LY hy:=by
 obtain⟨h1,hf,hr,h2,h3,h4,h5,h6,h7,h8,h9,h10⟩:=h;exact⟨Only.fresh h1 ho hd.lo.2.2.1,hf.only ho (hf.unlike h7 (by decide)),hr.only ho (hr.unlike h7 (by decide)),h2.only ho (h2.unlike h7 (by decide)),h3.only ho (h3.unlike h7 (by decide)),h4.only ho (h4.unlike h7 (by decide)),RB.exB h5 h7 ho,RB.exB h6 h7 ho,hn,RB.exB h8 h7 ho,RB.exB h9 h7 ho,h10.only ho hd.d3.2.2.2.2.symm⟩
theorem SdS.wrYh{l:List Bool}(h:SdS w u F n S bx cx ga gl gh ga' gl' gh' KL X LX hx Y LY hy)(hd:SdD w.heap.size S bx cx ga gl gh ga' gl' gh')(ho:Only gh' u u')(hn:SB u' gh' 4 (boolsV l).toArray):SdS w u' F n S bx cx ga gl gh ga' gl' gh' KL X LX hx Y LY l:=by
 obtain⟨h1,hf,hr,h2,h3,h4,h5,h6,h7,h8,h9,h10⟩:=h;exact⟨Only.fresh h1 ho hd.lo.2.2.2.2.2,hf.only ho (hf.unlike h10 (by decide)),hr.only ho (hr.unlike h10 (by decide)),h2.only ho (h2.unlike h10 (by decide)),h3.only ho (h3.unlike h10 (by decide)),h4.only ho (h4.unlike h10 (by decide)),RB.exB h5 h10 ho,RB.exB h6 h10 ho,h7.only ho hd.d3.2.2.2.2,RB.exB h8 h10 ho,RB.exB h9 h10 ho,hn⟩
end
def PutR(g n K i:Nat)(q:Rat)(w w':World):Prop:=Only g w w'/\∀X us,RB w g n K X us->∃us',RB w' g n K X us'∨RB w' g n K (upd X i q) us'
theorem Qex(X:Vec)(i:Nat)(q:Rat):upd (upd X i q) i q=upd X i q:=by
 funext c;unfold upd
 split<;>rfl
theorem Only.ofBelow{g:Nat}{w w':World}(h:Below w.heap.size w w'):Only g w w':=⟨h.os,h.tape,h.output,h.size,fun k hk _=>h.block k hk⟩
theorem PutR.of_below{g n K i:Nat}{q:Rat}{w w':World}(h:Below w.heap.size w w'):PutR g n K i q w w':=⟨Only.ofBelow h,fun X us hr=>⟨us,.inl (hr.below h)⟩⟩
theorem PutR.ok(g n K i:Nat)(q:Rat):RelOK (PutR g n K i q):=⟨fun w=>PutR.of_below bR,fun {u v w} h k=>⟨h.1.trans k.1,fun X us hr=>by
 obtain⟨us1,h1|h1⟩:=h.2 X us hr
 · exact k.2 X us1 h1
 ·
  obtain⟨us2,h2|h2⟩:=k.2 _ us1 h1
  · exact⟨us2,.inr h2⟩
  · rw[Qex] at h2
    exact⟨us2,.inr h2⟩⟩⟩
theorem PutR.put{g n K i:Nat}{q:Rat}{w:World}{x y z:Value}(hi:i<n)(hf:FF q K (.agg #[x,y,z]) w):PutR g n K i q w (((w.setCell ⟨g,i*3,none⟩ x).setCell ⟨g,i*3+1,none⟩ y).setCell ⟨g,i*3+2,none⟩ z):=
 ⟨(((Only.refl g w).setCell (i*3) x).setCell (i*3+1) y).setCell (i*3+2) z,fun X us hr=>⟨_,.inr (hr.set hi hf (upd X i q) (fun j=>rfl))⟩⟩
theorem PutR.some{g n K i:Nat}{q:Rat}{w w':World}(h:PutR g n K i q w w'){X:Vec}(hr:∃us,RB w g n K X us):∃Y us,RB w' g n K Y us:=by
 obtain⟨us,hr⟩:=hr;obtain⟨us',h1|h1⟩:=h.2 X us hr
 · exact⟨_,_,h1⟩
 · exact⟨_,_,h1⟩
def FFr(g n K:Nat)(q:Rat)(k:Nat):Fact:=fun v w=>FF q k v w/\∃Y us,RB w g n K Y us
theorem FFr.staysX{g n K i:Nat}{p q:Rat}{k:Nat}:StaysX (PutR g n K i p) (FFr g n K q k):=fun v w w' hb ⟨h1,Y,us,h2⟩=>⟨⟨h1.1.only hb.1 h2.blk.blk h2.blk.no64,h1.2⟩,hb.some ⟨us,h2⟩⟩
def PutF(g n K i:Nat)(q:Rat)(X:Vec):Fact:=fun _ w=>∃us,RB w g n K (upd X i q) us
theorem PutF.staysX{g n K i:Nat}{q:Rat}{X:Vec}:StaysX (PutR g n K i q) (PutF g n K i q X):=fun v w w' hb ⟨us,h⟩=>by
 obtain⟨us',h1|h1⟩:=hb.2 _ us h
 · exact⟨us',h1⟩
 · rw[Qex] at h1
   exact⟨us',h1⟩
section
variable {P:Program} {ops:Array Oper} {Q:Exit->Act->World->Prop} {R:World->World->Prop}
theorem RegX.one(hR:RelOK R){n:Nat}{a0:Act}{w0:World}{ds:Nat->Option Tmp}{Φ:List Fact}{m:Nat}{o1:Oper}(hm:Φ.length=m)(hk:m+1=ops.size)(ho1:ops[m]?=some o1)(hw:ChainTo ops m=true)
 (h:∀w,R w0 w->FinG ds (fun a=>OneOX P ops Q o1 (Q .normal) a w) w Φ 0 a0):RegX R P ops Q m n a0 w0 ds Φ:=by
 refine RegX.tail hR (k:=1) hm hk (by decide) hw (fun w hb=>?_);refine FinG.monoX (fun a ha=>?_) Φ 0 a0 (h w hb)
 show wpOps P ops Q [m] a w
 rw[wpOps_cons];exact wpOp_step ho1 (fun K hK=>ha K (fun a' w' h'=>hK a' w' h'))
end
end Go.Proofs.YtfpcipgoedifaaaGreatDoor
