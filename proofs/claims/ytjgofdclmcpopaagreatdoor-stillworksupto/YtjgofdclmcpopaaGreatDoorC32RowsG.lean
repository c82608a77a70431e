import Derived.Test.YtjgofdclmcpopaaGreatDoorC31RefD
namespace Go.Proofs.YtjgofdclmcpopaaGreatDoor
open Go.RowKit
open Go.Proofs.Tryz
set_option linter.unusedSimpArgs false
set_option linter.unusedVariables false
set_option maxHeartbeats 8000000
set_option maxRecDepth 1000000
theorem Qr3(a1 a2 a3:Option Addr)(c1 c2 c3:Nat)(js:List S2)(bs:List B6)(hs:List H3)(w:World)(hg:Glob w)(hf:FrRow w a1 a2 a3 c1 c2 c3 js bs hs)(hz:FrSized js bs hs):
 Calls prog 27 #[.agg #[.slice a1 js.length c1,.slice a2 bs.length c2,.slice a3 hs.length c3]] w fun e w'=>∃c at_,e=.returned (.agg #[.int .i64 c,.int .i64 at_])/\FrameFault js bs hs c at_/\Below w.heap.size w w':=by
 by_cases hm:Many js.length bs.length hs.length
 . exact Qr1 a1 a2 a3 c1 c2 c3 js bs hs w hg hf hz hm
 . exact Qr2 a1 a2 a3 c1 c2 c3 js bs hs w hg hf hz hm
theorem SB.arow{α:Type}{c:α->List Value}{w:World}{g cap:Nat}{t:TypeId}{C:Array Value}{es:List α}(h:SB w g t C)(hc:C.toList=es.flatMap c)(hl:es.length<=cap):ARow c w (some ⟨g,0,none⟩) cap es:=by
 refine⟨hl,⟨fun j u hj=>⟨g,0,rfl,h.lt,?_⟩⟩⟩;rw[Nat.zero_add,h.cell j,<-Array.getElem?_toList,hc];exact hj
abbrev tx0:ByteArray:=⟨#[48]⟩
abbrev tx1:ByteArray:=⟨#[49]⟩
def cornerJ:List S2:=[⟨tx0,tx0⟩,⟨tx1,tx0⟩,⟨tx0,tx1⟩]
def cornerBar(a b:Int):B6:=⟨a,b,tx1,⟨#[]⟩,⟨#[45,49]⟩,⟨#[50]⟩⟩
def cornerB:List B6:=[cornerBar 0 1,cornerBar 1 2,cornerBar 2 0]
def cornerH:List H3:=[⟨0,1,⟨#[]⟩⟩,⟨0,2,⟨#[]⟩⟩,⟨1,2,⟨#[]⟩⟩]
theorem Tryz.barInfo:(prog.info? 69).map (·.size)=some 6:=by kernel_rfl
theorem Qe1(a b:Int)(w:World):Calls prog 179 #[.int .i64 a,.int .i64 b] w fun e w'=>e=.returned (.agg #[.int .i64 a,.int .i64 b,.string ⟨#[49]⟩,.string ⟨#[]⟩,.string ⟨#[45,49]⟩,.string ⟨#[50]⟩])/\Below w.heap.size w w':=by
 go_enter func179,ntmps179;go_wp2;refine bodyPost_ret (results_cell_row rfl _ _ w.heap.size 69 #[.int .i64 a,.int .i64 b,.string ⟨#[49]⟩,.string ⟨#[]⟩,.string ⟨#[45,49]⟩,.string ⟨#[50]⟩] (0,0) _ rfl (SB.new w _ _) underlying69 rfl Tryz.barInfo) rfl ?_;exact⟨rfl,bR.alloc lZ _⟩
theorem Qe2(w:World):Calls prog 91 #[] w fun e w'=>∃g1 g2 g3,e=.returned (.agg #[.slice (some ⟨g1,0,none⟩) 3 3,.slice (some ⟨g2,0,none⟩) 3 3,.slice (some ⟨g3,0,none⟩) 3 3])/\FrRow w' (some ⟨g1,0,none⟩) (some ⟨g2,0,none⟩) (some ⟨g3,0,none⟩) 3 3 3 cornerJ cornerB cornerH/\Below w.heap.size w w':=by
 go_enter func91,ntmps91;go_wp2_with fail;obtain⟨W,hW⟩:=nm (w.alloc (.cells #[.slice none 0 0,.slice none 0 0,.slice none 0 0] 54));have HP:O (PBag w W [fun v=>SB v w.heap.size 54 #[.slice none 0 0,.slice none 0 0,.slice none 0 0]]):=Hi (by rw[<-hW];exact((PBag.start w).below (bR.alloc lZ _)).put (P:=fun v=>SB v w.heap.size 54 #[.slice none 0 0,.slice none 0 0,.slice none 0 0]) (SB.new w _ _) (SB.stay _ _ _));rw[hW];clear hW;go_fit (Qeh ⟨#[48]⟩ ⟨#[48]⟩ W);rintro e w1 ⟨rfl,hb⟩;have HQ:=Hi (HP.o.below hb);clear HP hb;have HP:=HQ;clear HQ;go_wp2_with fail;go_fit (Qeh ⟨#[49]⟩ ⟨#[48]⟩ w1);rintro e w2 ⟨rfl,hb⟩;have HQ:=Hi (HP.o.below hb);clear HP hb;have HP:=HQ;clear HQ;go_wp2_with fail;go_fit (Qeh ⟨#[48]⟩ ⟨#[49]⟩ w2);rintro e w3 ⟨rfl,hb⟩;have HQ:=Hi (HP.o.below hb);clear HP hb;have HP:=HQ;clear HQ;obtain⟨g1,hg1⟩:=nm w3.heap.size
 obtain⟨v3,hv3⟩:=nm (w3.alloc (.cells #[.string ⟨#[48]⟩,.string ⟨#[48]⟩,.string ⟨#[49]⟩,.string ⟨#[48]⟩,.string ⟨#[48]⟩,.string ⟨#[49]⟩] 25));have HQ:=Hi ((HP.o.below (w':=v3) (by rw[<-hv3];exact(Below.refl _ _).alloc lZ _)).put (P:=fun v=>SB v g1 25 #[.string ⟨#[48]⟩,.string ⟨#[48]⟩,.string ⟨#[49]⟩,.string ⟨#[48]⟩,.string ⟨#[48]⟩,.string ⟨#[49]⟩]) (by rw[<-hv3,<-hg1];exact SB.new w3 _ _) (SB.stay _ _ _));have ne1:w.heap.size≠g1:=by have:=HP.o.base.size;have:=(HP.o.get (fun v=>SB v w.heap.size 54 #[.slice none 0 0,.slice none 0 0,.slice none 0 0]) (List.Mem.head _)).lt;omega
 clear HP;have HP:=HQ;obtain⟨HV3,HG1⟩:=Ia hv3 hg1;clear HQ hv3 hg1;go_wp2_with fail;rw[HV3.o,HG1.o];go_fit (Qe1 0 1 v3);rintro e w4 ⟨rfl,hb⟩;have HQ:=Hi (HP.o.below hb);clear HP hb;have HP:=HQ;clear HQ;go_wp2_with fail;go_fit (Qe1 1 2 w4);rintro e w5 ⟨rfl,hb⟩;have HQ:=Hi (HP.o.below hb);clear HP hb;have HP:=HQ;clear HQ;go_wp2_with fail;go_fit (Qe1 2 0 w5);rintro e w6 ⟨rfl,hb⟩;have HQ:=Hi (HP.o.below hb);clear HP hb;have HP:=HQ;clear HQ;obtain⟨g2,hg2⟩:=nm w6.heap.size
 obtain⟨v7,hv7⟩:=nm ((w6.alloc (.cells #[.int .i64 0,.int .i64 1,.string ⟨#[49]⟩,.string ⟨#[]⟩,.string ⟨#[45,49]⟩,.string ⟨#[50]⟩,.int .i64 1,.int .i64 2,.string ⟨#[49]⟩,.string ⟨#[]⟩,.string ⟨#[45,49]⟩,.string ⟨#[50]⟩,.int .i64 2,.int .i64 0,.string ⟨#[49]⟩,.string ⟨#[]⟩,.string ⟨#[45,49]⟩,.string ⟨#[50]⟩] 69)).alloc (.cells #[.int .i64 0,.int .i64 1,.string ⟨#[]⟩,.int .i64 0,.int .i64 2,.string ⟨#[]⟩,.int .i64 1,.int .i64 2,.string ⟨#[]⟩] 71))
 have HQ:=Hi (((HP.o.below (w':=v7) (by rw[<-hv7];exact Below.new2 w6 _ _)).put (P:=fun v=>SB v g2 69 #[.int .i64 0,.int .i64 1,.string ⟨#[49]⟩,.string ⟨#[]⟩,.string ⟨#[45,49]⟩,.string ⟨#[50]⟩,.int .i64 1,.int .i64 2,.string ⟨#[49]⟩,.string ⟨#[]⟩,.string ⟨#[45,49]⟩,.string ⟨#[50]⟩,.int .i64 2,.int .i64 0,.string ⟨#[49]⟩,.string ⟨#[]⟩,.string ⟨#[45,49]⟩,.string ⟨#[50]⟩]) (by rw[<-hv7,<-hg2];exact(SB.new w6 _ _).alloc _) (SB.stay _ _ _)).put (P:=fun v=>SB v (g2+1) 71 #[.int .i64 0,.int .i64 1,.string ⟨#[]⟩,.int .i64 0,.int .i64 2,.string ⟨#[]⟩,.int .i64 1,.int .i64 2,.string ⟨#[]⟩]) (by rw[<-hv7,<-hg2];exact SB.new2 w6 _ _ _ _) (SB.stay _ _ _));have hres:=HP.o.get (fun v=>SB v w.heap.size 54 #[.slice none 0 0,.slice none 0 0,.slice none 0 0]) (by
  (focus(repeat(first|exact mH|apply mT)))
  skip)
 have ne2:w.heap.size≠g2:=by have:=hres.lt;omega
 have ne3:w.heap.size≠g2+1:=by have:=hres.lt;omega
 clear HP hres;have HP:=HQ;have hres:=HP.o.get (fun v=>SB v w.heap.size 54 #[.slice none 0 0,.slice none 0 0,.slice none 0 0]) (by
  (focus(repeat(first|exact mH|apply mT)))
  skip)
 obtain⟨z0,z1,z2,-⟩:=zc hres;have f0:=hres.free 0;have f1:=hres.free 1;have f2:=hres.free 2;rw[<-hv7] at z0 z1 z2 f0 f1 f2;obtain⟨HRES,HV7,HG2⟩:=Ib hres hv7 hg2;clear HQ hv7 hg2 hres;go_wp2;rw[HV7.o,HG2.o];have s1:=HP.o.get (fun v=>SB v g1 25 #[.string ⟨#[48]⟩,.string ⟨#[48]⟩,.string ⟨#[49]⟩,.string ⟨#[48]⟩,.string ⟨#[48]⟩,.string ⟨#[49]⟩]) (by
  (focus(repeat(first|exact mH|apply mT)))
  skip)
 have s2:=HP.o.get (fun v=>SB v g2 69 #[.int .i64 0,.int .i64 1,.string ⟨#[49]⟩,.string ⟨#[]⟩,.string ⟨#[45,49]⟩,.string ⟨#[50]⟩,.int .i64 1,.int .i64 2,.string ⟨#[49]⟩,.string ⟨#[]⟩,.string ⟨#[45,49]⟩,.string ⟨#[50]⟩,.int .i64 2,.int .i64 0,.string ⟨#[49]⟩,.string ⟨#[]⟩,.string ⟨#[45,49]⟩,.string ⟨#[50]⟩]) (by
  (focus(repeat(first|exact mH|apply mT)))
  skip)
 have s3:=HP.o.get (fun v=>SB v (g2+1) 71 #[.int .i64 0,.int .i64 1,.string ⟨#[]⟩,.int .i64 0,.int .i64 2,.string ⟨#[]⟩,.int .i64 1,.int .i64 2,.string ⟨#[]⟩]) (by
  (focus(repeat(first|exact mH|apply mT)))
  skip)
 have r1:ARow S2.cells v7 (some ⟨g1,0,none⟩) 3 cornerJ:=s1.arow rfl (by decide);have r2:ARow B6.cells v7 (some ⟨g2,0,none⟩) 3 cornerB:=s2.arow rfl (by decide);have r3:ARow H3.cells v7 (some ⟨g2+1,0,none⟩) 3 cornerH:=s3.arow rfl (by decide);refine bodyPost_ret (results_cell_row rfl _ _ w.heap.size 54 #[.slice (some ⟨g1,0,none⟩) 3 3,.slice (some ⟨g2,0,none⟩) 3 3,.slice (some ⟨g2+1,0,none⟩) 3 3] (0,0) _ rfl (((HRES.o.set 0 _).set 1 _).set 2 _) underlying54 rfl Tryz.frameInfo) rfl ?_;exact⟨g1,g2,g2+1,rfl,⟨((r1.far ne1).far ne1).far ne1,((r2.far ne2).far ne2).far ne2,((r3.far ne3).far ne3).far ne3⟩,((HP.o.base.setCell lZ _).setCell lZ _).setCell lZ _⟩
theorem Qei(a1 a2 a3:Option Addr)(c1 c2 c3 n m k:Nat)(w:World)(hm:m<=24)(hk:k<=20):
 Calls prog 118 #[.agg #[.slice a1 n c1,.slice a2 m c2,.slice a3 k c3]] w fun e w'=>e=.returned (.int .i64 ((m:Int)+(k:Int)))/\Below w.heap.size w w':=by
 go_enter func118,ntmps118;go_wp2;go_ret;exact⟨rfl,bR.alloc lZ _⟩
theorem Qej(a1 a2 a3:Option Addr)(c1 c2 c3 n m k:Nat)(w:World)(hn:n<=10):
 Calls prog 119 #[.agg #[.slice a1 n c1,.slice a2 m c2,.slice a3 k c3]] w fun e w'=>e=.returned (.int .i64 (2*(n:Int)))/\Below w.heap.size w w':=by
 go_enter func119,ntmps119;go_wp2;go_ret;exact⟨rfl,bR.alloc lZ _⟩
theorem Qc6(j:Nat)(w:World)(hj:j<=10):Calls prog 197 #[.int .i64 j] w fun e w'=>e=.returned (.int .i64 (2*(j:Int)))/\w'=w:=by
 go_enter func197,ntmps197;go_wp2;go_ret;exact⟨rfl,rfl⟩
theorem Qc7(j:Nat)(w:World)(hj:j<=10):Calls prog 198 #[.int .i64 j] w fun e w'=>e=.returned (.int .i64 (2*(j:Int)+1))/\w'=w:=by
 go_enter func198,ntmps198;go_wp2;go_ret;exact⟨rfl,rfl⟩
theorem Qug(j:Nat)(wy:Int)(q:ByteArray)(w:World)(hj:j<=10):Calls prog 199 #[.agg #[.int .i64 j,.int .i64 wy,.string q]] w fun e w'=>e=.returned (.int .i64 (if wy=1 then 2*(j:Int) else 2*(j:Int)+1))/\Below w.heap.size w w':=by
 have HB:=Hi ((Below.refl w.heap.size w).alloc lZ (.cells #[.int .i64 j,.int .i64 wy,.string q] 71));by_cases h:wy=1
 .
  subst h;rw[if_pos rfl];go_enter func199,ntmps199;go_wp2_with fail;go_fit (Qc6 j _ hj);rintro e w1 ⟨rfl,rfl⟩;go_wp2;go_ret;exact⟨rfl,HB.o⟩
 .
  rw[if_neg h];have e0:(wy == 1)=false:=by rw[beq_eq_false_iff_ne];exact h
  clear h;go_enter func199,ntmps199;go_wp2_with fail;go_fit (Qc7 j _ hj);rintro e w1 ⟨rfl,rfl⟩;go_wp2;go_ret;exact⟨rfl,HB.o⟩
def FE.cells(t:FE):List Value:=[t.x,t.y,t.z]
structure QRow (w:World) (a:Option Addr) (cap:Nat) (ts:List FE):Prop where
 row:ARow FE.cells w a cap ts
 ts:∀t,t∈ ts->FracV w (.agg #[t.x,t.y,t.z]) t.q/\Fits t.q t.k/\0<t.k
theorem QRow.below{w w':World}{a:Option Addr}{cap:Nat}{ts:List FE}(h:QRow w a cap ts)(hb:Below w.heap.size w w'):QRow w' a cap ts:=
 ⟨h.row.below hb,fun t ht=>⟨(h.ts t ht).1.below hb,(h.ts t ht).2⟩⟩
theorem QRow.at{w:World}{a:Option Addr}{cap:Nat}{ts:List FE}(h:QRow w a cap ts){i:Nat}{e:FE}(hi:ts[i]?=some e):
 ∃b off,a=some ⟨b,off,none⟩/\b<w.heap.size/\w.cell? ⟨b,off+i*3,none⟩=some e.x/\w.cell? ⟨b,off+i*3+1,none⟩=some e.y/\w.cell? ⟨b,off+i*3+2,none⟩=some e.z:=by
 obtain⟨b,off,h1,h2,h3⟩:=h.row.at (sz:=3) (fun _=>rfl) (by decide) hi;exact⟨b,off,h1,h2,h3 0 _ rfl,h3 1 _ rfl,h3 2 _ rfl⟩
theorem QRow.get{w:World}{a:Option Addr}{cap:Nat}{ts:List FE}(h:QRow w a cap ts){i:Nat}{e:FE}(hi:ts[i]?=some e):FracV w (.agg #[e.x,e.y,e.z]) e.q/\Fits e.q e.k/\0<e.k:=h.ts e (mO hi)
def filledOf(ts:List FE):Nat:=ts.countP fun t=>!decide (t.q=0)
theorem Qtc{ts:List FE}{k:Nat}{e:FE}(h:ts[k]?=some e):filledOf (ts.take (k+1))=filledOf (ts.take k)+if e.q=0 then 0 else 1:=by
 unfold filledOf;rw[List.take_add_one,h,List.countP_append];by_cases h0:e.q=0<;>simp[h0]
theorem Qkp(ts:List FE):filledOf ts<=ts.length:=List.countP_le_length
theorem Qtd(a:Option Addr)(cap:Nat)(ts:List FE)(w:World)(h:QRow w a cap ts)(hl:ts.length<=1000):
 Calls prog 298 #[.slice a ts.length cap] w fun e w'=>e=.returned (.int .i64 (filledOf ts:Nat))/\Below w.heap.size w w':=by
 have HH:=Hi h;clear h;go_enter func298,ntmps298;go_wp2_with fail;go_loopw [3,8] (fun n i wr=>∃k:Nat,k<=ts.length/\i=.int .i64 k/\n=.int .i64 (filledOf (ts.take k):Nat)/\Below w.heap.size w wr) (fun _ i _=>ts.length - (intOf i).toNat)
 case atStart=>exact⟨0,by omega,rfl,rfl,Below.refl _ _⟩
 case round=>
  obtain⟨k,hk,rfl,rfl,hb⟩:=hrel;have HB:=Hi hb;clear hb;by_cases hlt:k<ts.length
  .
   obtain⟨f,hf⟩:∃f,ts[k]?=some f:=⟨ts[k],gE hlt⟩;obtain⟨fb,off,rfl,hfb,d0,d1,d2⟩:=(HH.o.below HB.o).at hf;obtain⟨hv,_,_⟩:=(HH.o.below HB.o).get hf;have HFK:=Hi (Qtc hf);have hn:filledOf (ts.take k)<=1000:=by
    have h1:=Qkp (ts.take k);have h2:=List.length_take_le k ts;omega
   obtain⟨o1,o2,o3⟩:=hv.one;obtain⟨m,hm⟩:=nm (filledOf (ts.take k));rw[hm] at hn HFK ⊢;have HV:=Hi hv;have q1:((k:Int)<(ts.length:Int)):=by omega
   obtain⟨V,hV⟩:=nm (wr.alloc (.cells #[f.x,f.y,f.z] 128));have HBV:=Ua hV;have HW:=Hi hV;have s0:=Qap prog o1;have s1:=Qap prog o2;have s2:=Qap prog o3;clear hf hv hm hV o1 o2 o3;go_wp2_with fail;rw[HW.o];go_fit (Qb5 (HV.o.below HBV.o));rintro e w4 ⟨rfl,hb4⟩;have HB4:=Hi (HB.o.trans ((HBV.o.trans (hb4.mono HBV.o.size)).mono HB.o.size));clear hb4 d0 d1 d2 s0 s1 s2;by_cases h0:f.q=0
   .
    rw[decide_eq_true h0];rw[if_pos h0] at HFK;clear h0;go_wp2;go_roundw
    case rel=>exact⟨k+1,by omega,by go_num,by rw[HFK.o];rfl,HB4.o⟩
    case measure=>simp[intOf];omega
   .
    rw[decide_eq_false h0];rw[if_neg h0] at HFK;clear h0;go_wp2;go_roundw
    case rel=>exact⟨k+1,by omega,by go_num,by rw[HFK.o];go_num,HB4.o⟩
    case measure=>simp[intOf];omega
  .
   have hk':k=ts.length:=by omega
   subst hk';have HT:O (filledOf (ts.take ts.length)=filledOf ts):=Hi (by rw[List.take_length]);rw[HT.o];go_wp2;go_ret;exact⟨rfl,HB.o⟩
structure MR where
 a:Option Addr
 cap:Nat
 ts:List FE
def MR.cells(r:MR):List Value:=[.slice r.a r.ts.length r.cap]
def MR.q(r:MR)(c:Nat):Rat:=(r.ts.map (·.q)).getD c 0
theorem MR.q_at{r:MR}{c:Nat}{e:FE}(h:r.ts[c]?=some e):r.q c=e.q:=by
 unfold MR.q;simp[List.getD,h]
structure QMat (w:World) (a:Option Addr) (cap wide:Nat) (rs:List MR):Prop where
 row:ARow MR.cells w a cap rs
 rs:∀r,r∈ rs->QRow w r.a r.cap r.ts/\r.ts.length=wide
theorem QMat.below{w w':World}{a:Option Addr}{cap wide:Nat}{rs:List MR}(h:QMat w a cap wide rs)(hb:Below w.heap.size w w'):QMat w' a cap wide rs:=
 ⟨h.row.below hb,fun t ht=>⟨(h.rs t ht).1.below hb,(h.rs t ht).2⟩⟩
theorem QMat.at{w:World}{a:Option Addr}{cap wide:Nat}{rs:List MR}(h:QMat w a cap wide rs){i:Nat}{r:MR}(hi:rs[i]?=some r):
 ∃b off,a=some ⟨b,off,none⟩/\b<w.heap.size/\w.cell? ⟨b,off+i,none⟩=some (.slice r.a r.ts.length r.cap):=by
 obtain⟨b,off,h1,h2,h3⟩:=h.row.at (sz:=1) (fun _=>rfl) (by decide) hi;refine⟨b,off,h1,h2,?_⟩;have:=h3 0 _ rfl;rw[Nat.mul_one] at this;exact this
theorem QMat.get{w:World}{a:Option Addr}{cap wide:Nat}{rs:List MR}(h:QMat w a cap wide rs){i:Nat}{r:MR}(hi:rs[i]?=some r):QRow w r.a r.cap r.ts/\r.ts.length=wide:=h.rs r (mO hi)
def Picks(rs:List MR)(c:Nat)(v:Int):Prop:=
 (v= -1/\∀r∈ rs,r.q c=0)∨∃j r,rs[j]?=some r/\v=(j:Nat)/\r.q c≠0
theorem Picks.skip{rs:List MR}{c k:Nat}{v:Int}{r:MR}(h:Picks (rs.take k) c v)(hr:rs[k]?=some r)(h0:r.q c=0):Picks (rs.take (k+1)) c v:=by
 rw[List.take_add_one,hr];rcases h with ⟨h1,h2⟩|⟨j,s,h1,h2,h3⟩
 .
  refine .inl ⟨h1,fun x hx=>?_⟩;rcases List.mem_append.1 hx with hx|hx
  . exact h2 x hx
  . obtain rfl:x=r:=by simpa using hx
    exact h0
 . exact .inr ⟨j,s,by rw[List.getElem?_append_left (gZ h1).1];exact h1,h2,h3⟩
theorem Picks.keep{rs:List MR}{c k j:Nat}{r:MR}(h:Picks (rs.take k) c (j:Nat))(hr:rs[k]?=some r):Picks (rs.take (k+1)) c (j:Nat):=by
 rw[List.take_add_one,hr];rcases h with ⟨h1,h2⟩|⟨i,s,h1,h2,h3⟩
 . omega
 . exact .inr ⟨i,s,by rw[List.getElem?_append_left (gZ h1).1];exact h1,h2,h3⟩
theorem Picks.this{rs:List MR}{c k:Nat}{r:MR}(hr:rs[k]?=some r)(h0:r.q c≠0):Picks (rs.take (k+1)) c (k:Nat):=
 .inr ⟨k,r,by rw[List.getElem?_take_of_lt (Nat.lt_succ_self k)];exact hr,rfl,h0⟩
theorem Qte(a:Option Addr)(cap wide c:Nat)(rs:List MR)(w:World)(h:QMat w a cap wide rs)(hl:rs.length<=1000)(hw:wide<=1000)(hc:c<wide):
 Calls prog 251 #[.slice a rs.length cap,.int .i64 c] w fun e w'=>(∃v,e=.returned (.int .i64 v)/\Picks rs c v)/\Below w.heap.size w w':=by
 have HH:=Hi h;clear h;go_enter func251,ntmps251;go_wp2_with fail;go_loopw [5,6,12] (fun u f i wr=>∃(k m:Nat) (v:Int),k<=rs.length/\i=.int .i64 k/\u=.int .i64 v/\f=.int .i64 m/\m<=1000/\Picks (rs.take k) c v/\Below w.heap.size w wr) (fun _ _ i _=>rs.length - (intOf i).toNat)
 case atStart=>exact⟨0,0,-1,by omega,rfl,rfl,rfl,by omega,.inl ⟨rfl,fun r hr=>by simp at hr⟩,Below.refl _ _⟩
 case round=>
  obtain⟨k,m,v,hk,rfl,rfl,rfl,hm,hp,hb⟩:=hrel;obtain⟨HB,HP⟩:=Ia hb hp;clear hb hp;by_cases hlt:k<rs.length
  .
   obtain⟨r,hr⟩:∃r,rs[k]?=some r:=⟨rs[k],gE hlt⟩;obtain⟨fb,off,rfl,hfb,d⟩:=(HH.o.below HB.o).at hr;obtain⟨hq,hrw⟩:=(HH.o.below HB.o).get hr;obtain⟨e,he⟩:∃e,r.ts[c]?=some e:=⟨r.ts[c],gE (by omega)⟩;obtain⟨rb,ro,hra,hrb,d0,d1,d2⟩:=hq.at he;obtain⟨hv,_,_⟩:=hq.get he;obtain⟨HQ,HR,HE,HV⟩:=Ic hq hr (MR.q_at he) hv;have q1:((k:Int)<(rs.length:Int)):=by omega
   have q2:((c:Int)<(r.ts.length:Int)):=by omega
   rw[hra] at d;have HRA:=Hi hra;clear hr hq he hv hra;go_wp2_with fail;go_fit (Qb5 HV.o);rintro e' w4 ⟨rfl,hb4⟩;obtain⟨HB4,HQ4⟩:=Ia (HB.o.trans (hb4.mono HB.o.size)) (HQ.o.below hb4);clear hb4 d0 d1 d2 d;by_cases h0:e.q=0
   .
    rw[decide_eq_true h0];have HZ:O (r.q c=0):=Hi (HE.o.trans h0);clear h0;go_wp2;go_roundw
    case measure=>simp[intOf];omega
    case rel=>exact⟨k+1,m,v,by omega,by go_num,rfl,rfl,hm,HP.o.skip HR.o HZ.o,HB4.o⟩
   .
    rw[decide_eq_false h0];have HZ:O (r.q c≠0):=Hi (fun hc=>h0 (HE.o.symm.trans hc));have hf:=Qkp r.ts;clear h0;go_wp2_with fail;have HF:=Hi (Qtd r.a r.cap r.ts w4 HQ4.o (by omega));rw[HRA.o,hrw] at HF;obtain⟨g,hg⟩:=nm (filledOf r.ts);rw[hg] at HF hf;clear hg;go_fit HF.o;rintro e' w5 ⟨rfl,hb5⟩;have HB5:=Hi (HB4.o.trans (hb5.mono HB4.o.size));clear hb5;have hg:g<=1000:=by omega
    by_cases hv:v<0
    .
     clear HP;go_wp2;go_roundw
     case measure=>simp[intOf];omega
     case rel=>exact⟨k+1,g,k,by omega,by go_num,rfl,rfl,hg,Picks.this HR.o HZ.o,HB5.o⟩
    .
     obtain⟨j,rfl⟩:∃j:Nat,v=j:=⟨v.toNat,by omega⟩;clear hv;by_cases hgm:(g:Int)<(m:Int)
     .
      go_wp2;go_roundw
      case measure=>simp[intOf];omega
      case rel=>exact⟨k+1,g,k,by omega,by go_num,rfl,rfl,hg,Picks.this HR.o HZ.o,HB5.o⟩
     .
      go_wp2;go_roundw
      case measure=>simp[intOf];omega
      case rel=>exact⟨k+1,m,j,by omega,by go_num,rfl,rfl,hm,HP.o.keep HR.o,HB5.o⟩
  .
   have hk':k=rs.length:=by omega
   subst hk';have HP':O (Picks rs c v):=Hi (by have:=HP.o;rw[List.take_length] at this;exact this);go_wp2;go_ret;exact⟨⟨v,rfl,HP'.o⟩,HB.o⟩
def FE.zero:FE:=⟨.bool false,.slice none 0 0,.slice none 0 0,0,1⟩
structure QBlk (w:World) (g:Nat) (ts:List FE):Prop where
 blk:SB w g 128 (ts.flatMap FE.cells).toArray
 ts:∀t,t∈ ts->FracV w (.agg #[t.x,t.y,t.z]) t.q/\Fits t.q t.k/\0<t.k
theorem QBlk.row{w:World}{g:Nat}{ts:List FE}(h:QBlk w g ts):QRow w (some ⟨g,0,none⟩) ts.length ts:=⟨h.blk.arow rfl lZ,h.ts⟩
theorem QBlk.below{w w':World}{g:Nat}{ts:List FE}(h:QBlk w g ts)(hb:Below w.heap.size w w'):QBlk w' g ts:=⟨h.blk.below hb h.blk.lt,fun t ht=>⟨(h.ts t ht).1.below hb,(h.ts t ht).2⟩⟩
theorem QBlk.no64{w:World}{g:Nat}{ts:List FE}(h:QBlk w g ts):NoU64 (ts.flatMap FE.cells).toArray:=by
 refine Qhs fun v hv n=>?_
 obtain⟨t,ht,hv⟩:=List.mem_flatMap.1 hv;obtain⟨h1,h2,h3⟩:=(h.ts t ht).1.no64 n;simp[FE.cells] at hv;rcases hv with rfl|rfl|rfl
 . exact h1
 . exact h2
 . exact h3
theorem Qkq:∀(ts:List FE) (k:Nat) (e:FE),k<ts.length->(ts.set k e).flatMap FE.cells=(((ts.flatMap FE.cells).set (k*3) e.x).set (k*3+1) e.y).set (k*3+2) e.z
 | [],k,e,h=>by simp at h
 |t :: l,0,e,_=>by simp[FE.cells]
 |t :: l,k+1,e,h=>by
  have ih:=Qkq l k e (by simpa using h);rw[List.set_cons_succ,List.flatMap_cons,ih,List.flatMap_cons];simp only[FE.cells,List.cons_append,List.nil_append];rw[show (k+1)*3=k*3+1+1+1 by omega];simp only[List.set_cons_succ,Nat.add_assoc]
theorem QBlk.set{w:World}{g:Nat}{ts:List FE}(h:QBlk w g ts){k:Nat}{e:FE}(hk:k<ts.length)(he:FracV w (.agg #[e.x,e.y,e.z]) e.q/\Fits e.q e.k/\0<e.k):
 QBlk (((w.setCell ⟨g,k*3,none⟩ e.x).setCell ⟨g,k*3+1,none⟩ e.y).setCell ⟨g,k*3+2,none⟩ e.z) g (ts.set k e):=by
 have ho:Only g w (((w.setCell ⟨g,k*3,none⟩ e.x).setCell ⟨g,k*3+1,none⟩ e.y).setCell ⟨g,k*3+2,none⟩ e.z):=(((Only.refl g w).setCell _ _).setCell _ _).setCell _ _;refine⟨?_,fun t ht=>?_⟩
 .
  have:=((h.blk.set (k*3) e.x).set (k*3+1) e.y).set (k*3+2) e.z;rw[Qkq ts k e hk]
  simpa using this
 .
  rcases List.mem_or_eq_of_mem_set ht with ht|rfl
  . exact⟨(h.ts t ht).1.only ho h.blk h.no64,(h.ts t ht).2⟩
  . exact⟨he.1.only ho h.blk h.no64,he.2⟩
theorem QBlk.new(w:World)(n:Nat)(C:Array Value)(hC:C=((List.replicate n FE.zero).flatMap FE.cells).toArray):QBlk (w.alloc (.cells C 128)) w.heap.size (List.replicate n FE.zero):=by
 subst hC;refine⟨SB.new _ _ _,fun t ht=>?_⟩;obtain⟨_,rfl⟩:=List.mem_replicate.1 ht;exact⟨FracV.zero _,Fits.zero,by decide⟩
theorem Qtf(n:Nat):madeCells (Value.cells (.agg #[.bool false,.slice none 0 0,.slice none 0 0])) (n*3)=((List.replicate n FE.zero).flatMap FE.cells).toArray:=by
 apply Array.ext';apply List.ext_getElem?;intro i;by_cases hi:i<n*3
 .
  have h1:(List.replicate n FE.zero)[i / 3]?=some FE.zero:=by rw[List.getElem?_replicate,if_pos (by omega)]
  have h3:i % 3=0∨i % 3=1∨i % 3=2:=by omega
  have e0:Value.cells (.agg #[.bool false,.slice none 0 0,.slice none 0 0])=#[.bool false,.slice none 0 0,.slice none 0 0]:=by rfl
  have h4:i / 3*3+i % 3=i:=by omega
  have hm:(madeCells (Value.cells (.agg #[.bool false,.slice none 0 0,.slice none 0 0])) (n*3)).toList[i]?=some ((#[Value.bool false,.slice none 0 0,.slice none 0 0]:Array Value)[i % 3]!):=by
   rw[e0];simp[madeCells,hi]
  rw[hm];have hf:∀u,(FE.cells FE.zero)[i % 3]?=some u->((List.replicate n FE.zero).flatMap FE.cells)[i]?=some u:=fun u hu=>by
   have:=Qb3 (sz:=3) (fun _=>rfl) _ _ _ _ _ h1 hu;rw[h4] at this;exact this
  simp only[List.toList_toArray];rcases h3 with h3|h3|h3
  all_goals
   rw[h3] at hf ⊢;exact(hf _ rfl).symm
 .
  have h1:((List.replicate n FE.zero).flatMap FE.cells).length=n*3:=by rw[Qb2 (sz:=3) (fun _=>rfl)];simp
  have h2:=size_madeCells (Value.cells (.agg #[.bool false,.slice none 0 0,.slice none 0 0])) (n*3);rw[List.getElem?_eq_none (by rw[Array.length_toList,h2];omega),List.getElem?_eq_none (by simp only[List.toList_toArray];rw[h1];omega)]
theorem Qee:(prog.info? 128).map (fun i=>(i.zero,i.size,i.bytes))=some (some (.agg #[.bool false,.slice none 0 0,.slice none 0 0]),3,56):=by kernel_rfl
theorem Qci(n:Nat)(hn:n<=1048576)(w:World):(Instr.makeSlice 190 (.int .i64 n) (.int .i64 n)).run prog w=.ok (.slice (some ⟨w.heap.size,0,none⟩) n n) (w.alloc (.cells ((List.replicate n FE.zero).flatMap FE.cells).toArray 128)):=by
 obtain⟨i,hi,h⟩:=Option.map_eq_some_iff.1 Qee;simp only[Prod.mk.injEq] at h;obtain⟨hz,hs,hb⟩:=h;have:=run_make w 190 128 i _ underlying190 hi hz .i64 .i64 n n (by omega) (by omega) (by rw[hb];omega) (by omega);rw[Int.toNat_natCast,hs,Qtf] at this;exact this
def Made(f:Nat->Rat->Rat)(B:Nat)(ts us:List FE)(k:Nat):Prop:=
 us.length=ts.length/\∀i e,i<k->ts[i]?=some e->∃u,us[i]?=some u/\u.q=f i e.q/\u.k<=B
theorem Made.start(f:Nat->Rat->Rat)(B:Nat)(ts:List FE):Made f B ts (List.replicate ts.length FE.zero) 0:=⟨by simp,fun i e hi=>by omega⟩
theorem Made.step{f:Nat->Rat->Rat}{B:Nat}{ts us:List FE}{k:Nat}{e u:FE}(h:Made f B ts us k)(he:ts[k]?=some e)(hu:u.q=f k e.q)(hB:u.k<=B):Made f B ts (us.set k u) (k+1):=by
 have hk:=(gZ he).1;refine⟨by rw[List.length_set];exact h.1,fun i x hi hx=>?_⟩;rcases Nat.lt_or_ge i k with hlt|hge
 . obtain⟨y,h1,h2⟩:=h.2 i x hlt hx
   exact⟨y,by rw[List.getElem?_set_ne (by omega)];exact h1,h2⟩
 .
  obtain rfl:i=k:=by omega
  obtain rfl:=Option.some.inj (he.symm.trans hx);exact⟨u,by rw[List.getElem?_set_self (by rw[h.1];exact hk)],hu,hB⟩
theorem Qtg(a:Option Addr)(cap B j:Nat)(ts:List FE)(b1 b2 b3:Value)(q:Rat)(w:World)(h:QRow w a cap ts)(hl:ts.length<=1000)(hv:FracV w (.agg #[b1,b2,b3]) q)(hq:Fits q j)(hj:0<j)(hB:∀t∈ ts,t.k+j<=B)(hBB:B<68719476000):
 Calls prog 254 #[.slice a ts.length cap,.agg #[b1,b2,b3]] w fun e w'=>(∃g us,e=.returned (.slice (some ⟨g,0,none⟩) ts.length ts.length)/\w.heap.size<=g/\QBlk w' g us/\Made (fun _ x=>x / q) B ts us ts.length)/\Below w.heap.size w w':=by
 obtain⟨HH,HV,HF,HKB⟩:=Ic h hv hq hB;have hmk:=fun w=>Qci ts.length (by omega) w
 obtain⟨MC,hMC⟩:=nm (((List.replicate ts.length FE.zero).flatMap FE.cells).toArray);rw[hMC] at hmk;have HMC:=Hi hMC.symm;clear h hv hq hB hMC;go_enter func254,ntmps254;go_wp2_with fail;clear hmk;obtain⟨g,hg⟩:=nm (w.heap.size+1);have hgw:w.heap.size<g:=by omega
 obtain⟨W,hW⟩:=nm ((w.alloc (.cells #[b1,b2,b3] 128)).alloc (.cells MC 128));have HB0:=Ub hW;have HS0:=Ud hW;have HQ0:O (QBlk W g (List.replicate ts.length FE.zero)):=Hi (by rw[<-hW,<-hg];have:=QBlk.new (w.alloc (.cells #[b1,b2,b3] 128)) ts.length MC HMC.o;simpa using this)
 try rw[hW]
 try rw[hg]
 clear hW hg;go_loopw [12] (fun i wr=>∃(k:Nat) (us:List FE),k<=ts.length/\i=.int .i64 k/\Made (fun _ x=>x / q) B ts us k/\QBlk wr g us/\SB wr w.heap.size 128 #[b1,b2,b3]/\Below w.heap.size w wr) (fun i _=>ts.length - (intOf i).toNat)
 case atStart=>exact⟨0,_,by omega,rfl,Made.start _ _ _,HQ0.o,HS0.o,HB0.o⟩
 case round=>
  obtain⟨k,us,hk,rfl,hm,hqb,hs,hb⟩:=hrel;obtain⟨HB,HM,HQ,HS⟩:=Ic hb hm hqb hs;have hul:=hm.1;have hgl:=hqb.blk.lt;clear hb hm hqb hs;by_cases hlt:k<ts.length
  .
   obtain⟨e,he⟩:∃e,ts[k]?=some e:=⟨ts[k],gE hlt⟩;obtain⟨fb,off,rfl,hfw,_⟩:=HH.o.at he;obtain⟨fb',off',hfe,hfb,d0,d1,d2⟩:=(HH.o.below HB.o).at he;cases hfe;have n1:g≠fb:=by omega
   have n2:g≠w.heap.size:=by omega
   obtain⟨hx,hxf,hxk⟩:=(HH.o.below HB.o).get he;have hkj:=HKB.o e (mO he);obtain⟨y0,hy0⟩:∃y0,us[k]?=some y0:=⟨us[k],gE (by omega)⟩;obtain⟨HE,HX,HXF,HY⟩:=Ic he hx hxf (HV.o.below HB.o);obtain⟨k0,k1,k2,-⟩:=zc HS.o;have q1:((k:Int)<(ts.length:Int)):=by omega
   obtain⟨HY0,D0,D1,D2⟩:=Ic hy0 d0 d1 d2;clear he hx hxf hy0;go_wp2_with fail;go_region_held3 (fun v=>v.cell? ⟨fb,off+k*3,none⟩=some e.x/\v.cell? ⟨fb,off+k*3+1,none⟩=some e.y/\v.cell? ⟨fb,off+k*3+2,none⟩=some e.z/\v.cell? ⟨w.heap.size,0,none⟩=some b1/\v.cell? ⟨w.heap.size,1,none⟩=some b2/\v.cell? ⟨w.heap.size,2,none⟩=some b3) ((first|(simp [*];done)|go_keep)) (first
    |(
     go_at_call_of 155 e.x;apply cM
     first
      |exact Qcn HX.o HY.o HXF.o HF.o (by omega)
      |exact Qcn (HX.o.below bR.drew) (HY.o.below bR.drew) HXF.o HF.o (by omega)
     rintro e' w5 ⟨⟨v5,rfl,hv5⟩,hb5⟩;obtain⟨n5,a5,l5,c5,m5,o5,p5,rfl,hv5⟩:=hv5
     first
      |have HB5:O (Below wr.heap.size wr w5):=Hi hb5
      |have HB5:O (Below wr.heap.size wr w5):=Hi (bR.drew.trans hb5)
     have HV5:O (FracV w5 (.agg #[.bool n5,.slice a5 l5 c5,.slice m5 o5 p5]) (e.q / q)):=Hi ⟨n5,a5,l5,c5,m5,o5,p5,rfl,hv5⟩;clear hv5 hb5;have HQ5:=Hi (HQ.o.below HB5.o);obtain⟨v0,v1,v2⟩:=Jb HB5.o hfb D0.o D1.o D2.o;have HS5:=Hi (HS.o.below HB5.o HS.o.lt);obtain⟨u0,u1,u2,-⟩:=zc HS5.o;have f0:=HQ5.o.blk.free (k*3);have f1:=HQ5.o.blk.free (k*3+1);have f2:=HQ5.o.blk.free (k*3+2);obtain⟨gb,goff,hge,_,t0,t1,t2⟩:=HQ5.o.row.at HY0.o;cases hge;simp only[Nat.zero_add] at t0 t1 t2
     skip))
   all_goals
    go_wp2_with fail;obtain⟨HN,HS6,HB6⟩:=Ib (HQ5.o.set (k:=k) (e:=⟨.bool n5,.slice a5 l5 c5,.slice m5 o5 p5,e.q / q,e.k+j⟩) (by omega) ⟨HV5.o,HXF.o.div HF.o hxk hj,Nat.lt_add_right j hxk⟩) (((HS5.o.other n2.symm (k*3) (.bool n5)).other n2.symm (k*3+1) (.slice a5 l5 c5)).other n2.symm (k*3+2) (.slice m5 o5 p5)) ((((HB.o.trans (HB5.o.mono HB.o.size)).setCell (p:=⟨g,k*3,none⟩) (Nat.le_of_lt hgw) (.bool n5)).setCell (p:=⟨g,k*3+1,none⟩) (Nat.le_of_lt hgw) (.slice a5 l5 c5)).setCell (p:=⟨g,k*3+2,none⟩) (Nat.le_of_lt hgw) (.slice m5 o5 p5));refine⟨⟨k+1,_,by omega,by go_num,HM.o.step HE.o rfl hkj,HN.o,HS6.o,HB6.o⟩,?_⟩;simp[intOf];omega
  .
   have hk':k=ts.length:=by omega
   subst hk';go_wp2;go_ret;exact⟨⟨g,us,rfl,by omega,HQ.o,HM.o⟩,HB.o⟩
def qAt(ss:List FE)(i:Nat):Rat:=(ss.map (·.q)).getD i 0
theorem Qth{ss:List FE}{i:Nat}{e:FE}(h:ss[i]?=some e):qAt ss i=e.q:=by
 unfold qAt;simp[List.getD,h]
theorem Qgh(a a':Option Addr)(cap cap' B j:Nat)(ts ss:List FE)(b1 b2 b3:Value)(q:Rat)(w:World)(h:QRow w a cap ts)(h':QRow w a' cap' ss)(hss:ss.length=ts.length)(hl:ts.length<=1000)(hv:FracV w (.agg #[b1,b2,b3]) q)(hq:Fits q j)(hj:0<j)(hB:∀t∈ ts,∀s∈ ss,t.k+s.k+j+1<=B)(hBB:B<68719476000):
 Calls prog 253 #[.slice a ts.length cap,.slice a' ts.length cap',.agg #[b1,b2,b3]] w fun e w'=>(∃g us,e=.returned (.slice (some ⟨g,0,none⟩) ts.length ts.length)/\w.heap.size<=g/\QBlk w' g us/\Made (fun i x=>x - qAt ss i*q) B ts us ts.length)/\Below w.heap.size w w':=by
 obtain⟨HH,HG,HV,HF,HKB⟩:=Id h h' hv hq hB;have hmk:=fun w=>Qci ts.length (by omega) w
 obtain⟨MC,hMC⟩:=nm (((List.replicate ts.length FE.zero).flatMap FE.cells).toArray);rw[hMC] at hmk;have HMC:=Hi hMC.symm;clear h h' hv hq hB hMC;go_enter func253,ntmps253;go_wp2_with fail;clear hmk;obtain⟨g,hg⟩:=nm (w.heap.size+1);have hgw:w.heap.size<g:=by omega
 obtain⟨W,hW⟩:=nm ((w.alloc (.cells #[b1,b2,b3] 128)).alloc (.cells MC 128));have HB0:=Ub hW;have HS0:=Ud hW;have HQ0:O (QBlk W g (List.replicate ts.length FE.zero)):=Hi (by rw[<-hW,<-hg];have:=QBlk.new (w.alloc (.cells #[b1,b2,b3] 128)) ts.length MC HMC.o;simpa using this)
 try rw[hW]
 try rw[hg]
 clear hW hg;go_loopw [14] (fun i wr=>∃(k:Nat) (us:List FE),k<=ts.length/\i=.int .i64 k/\Made (fun i x=>x - qAt ss i*q) B ts us k/\QBlk wr g us/\SB wr w.heap.size 128 #[b1,b2,b3]/\Below w.heap.size w wr) (fun i _=>ts.length - (intOf i).toNat)
 case atStart=>exact⟨0,_,by omega,rfl,Made.start _ _ _,HQ0.o,HS0.o,HB0.o⟩
 case round=>
  obtain⟨k,us,hk,rfl,hm,hqb,hs,hb⟩:=hrel;obtain⟨HB,HM,HQ,HS⟩:=Ic hb hm hqb hs;have hul:=hm.1;have hgl:=hqb.blk.lt;clear hb hm hqb hs;by_cases hlt:k<ts.length
  .
   obtain⟨e,he⟩:∃e,ts[k]?=some e:=⟨ts[k],gE hlt⟩;obtain⟨s,hs⟩:∃s,ss[k]?=some s:=⟨ss[k],gE (by omega)⟩;obtain⟨fb,off,rfl,hfw,D0,D1,D2⟩:=HH.o.at he;obtain⟨sb,soff,rfl,hsw,E0,E1,E2⟩:=HG.o.at hs;obtain⟨hx,hxf,hxk⟩:=HH.o.get he;obtain⟨hy,hyf,hyk⟩:=HG.o.get hs;have hkj:=HKB.o e (mO he) s (mO hs);obtain⟨y0,hy0⟩:∃y0,us[k]?=some y0:=⟨us[k],gE (by omega)⟩;have n1:g≠fb:=by omega
   have n2:g≠w.heap.size:=by omega
   have n3:g≠sb:=by omega
   obtain⟨HE,HSQ,HX,HXF,HY,HYF,HD0,HD1,HD2⟩:=Ih he (Qth hs) hx hxf hy hyf D0 D1 D2;obtain⟨HE0,HE1,HE2⟩:=Ib E0 E1 E2;obtain⟨o1,o2,o3⟩:=hx.one;have st0:=Qap prog o1;have st1:=Qap prog o2;have st2:=Qap prog o3;obtain⟨d0,d1,d2⟩:=Jb HB.o hfw D0 D1 D2;have q1:((k:Int)<(ts.length:Int)):=by omega
   have f0:=HQ.o.blk.free (k*3);have f1:=HQ.o.blk.free (k*3+1);have f2:=HQ.o.blk.free (k*3+2);obtain⟨gb,goff,hge,_,t0,t1,t2⟩:=HQ.o.row.at hy0;cases hge;simp only[Nat.zero_add] at t0 t1 t2;obtain⟨W1,hW1⟩:=nm (((wr.setCell ⟨g,k*3,none⟩ e.x).setCell ⟨g,k*3+1,none⟩ e.y).setCell ⟨g,k*3+2,none⟩ e.z);have HQ1:O (QBlk W1 g (us.set k e)):=Hi (by rw[<-hW1];exact HQ.o.set (by omega) ⟨hx.below HB.o,hxf,hxk⟩);have HS1:O (SB W1 w.heap.size 128 #[b1,b2,b3]):=Hi (by rw[<-hW1];exact((HS.o.other n2.symm _ _).other n2.symm _ _).other n2.symm _ _);have HB1:O (Below w.heap.size w W1):=Hi (by rw[<-hW1];exact((HB.o.setCell (p:=⟨g,k*3,none⟩) (Nat.le_of_lt hgw) _).setCell (p:=⟨g,k*3+1,none⟩) (Nat.le_of_lt hgw) _).setCell (p:=⟨g,k*3+2,none⟩) (Nat.le_of_lt hgw) _);obtain⟨s0,s1⟩:=Ja HB1.o hsw E0 E1
   have s2:=ce HB1.o hsw E2;rw[<-hW1] at s0 s1 s2;have HW1:=Hi hW1;clear he hs hx hxf hy hyf hy0 hW1 o1 o2 o3 D0 D1 D2 E0 E1 E2;go_wp2_with fail;rw[HW1.o];clear s0 s1 s2 d0 d1 d2 f0 f1 f2 t0 t1 t2 st0 st1 st2;go_fit (Qb5 (HY.o.below HB1.o));rintro e' w4 ⟨rfl,hb4⟩;obtain⟨HB4,HQ4,HS4⟩:=Ib (HB1.o.trans (hb4.mono HB1.o.size)) (HQ1.o.below hb4) (HS1.o.below hb4 HS1.o.lt);clear hb4;by_cases h0:s.q=0
   .
    rw[decide_eq_true h0];have HZ:O (e.q=e.q - qAt ss k*q):=Hi (by rw[HSQ.o,h0,Rat.zero_mul,Rat.sub_eq_add_neg,Rat.neg_zero,Rat.add_zero]);clear h0;go_wp2;go_roundw
    case rel=>exact⟨k+1,_,by omega,by go_num,HM.o.step HE.o HZ.o (by omega),HQ4.o,HS4.o,HB4.o⟩
    case measure=>simp[intOf];omega
   .
    rw[decide_eq_false h0];clear h0;go_wp2_with fail;obtain⟨x0,x1,x2⟩:=Jb HB4.o hfw HD0.o HD1.o HD2.o;obtain⟨z0,z1,z2⟩:=Jb HB4.o hsw HE0.o HE1.o HE2.o;obtain⟨k0,k1,k2,-⟩:=zc HS4.o;have hkk:k<(us.set k e).length:=by rw[List.length_set];omega
    go_region_held3 (fun v=>v.cell? ⟨fb,off+k*3,none⟩=some e.x/\v.cell? ⟨fb,off+k*3+1,none⟩=some e.y/\v.cell? ⟨fb,off+k*3+2,none⟩=some e.z/\v.cell? ⟨sb,soff+k*3,none⟩=some s.x/\v.cell? ⟨sb,soff+k*3+1,none⟩=some s.y/\v.cell? ⟨sb,soff+k*3+2,none⟩=some s.z/\v.cell? ⟨w.heap.size,0,none⟩=some b1/\v.cell? ⟨w.heap.size,1,none⟩=some b2/\v.cell? ⟨w.heap.size,2,none⟩=some b3) ((first|(simp [*];done)|go_keep)) (first
     |(
      go_at_call 219;apply cM
      first
       |exact Qfe (HY.o.below HB4.o) (HV.o.below HB4.o) HYF.o HF.o (by omega)
       |exact Qfe (HY.o.below HB4.o.drew) (HV.o.below HB4.o.drew) HYF.o HF.o (by omega)
       |exact Qfe (HY.o.below HB4.o.drew.drew) (HV.o.below HB4.o.drew.drew) HYF.o HF.o (by omega)
      rintro e5 w5 ⟨⟨v5,rfl,hv5⟩,hb5⟩;obtain⟨n5,a5,l5,c5,m5,o5,p5,rfl,hv5⟩:=hv5
      first
       |have HB45:O (Below w4.heap.size w4 w5):=Hi hb5
       |have HB45:O (Below w4.heap.size w4 w5):=Hi (bR.drew.trans hb5)
       |have HB45:O (Below w4.heap.size w4 w5):=Hi (bR.drew.drew.trans hb5)
      have HV5:O (FracV w5 (.agg #[.bool n5,.slice a5 l5 c5,.slice m5 o5 p5]) (s.q*q)):=Hi ⟨n5,a5,l5,c5,m5,o5,p5,rfl,hv5⟩;clear hv5 hb5;obtain⟨HB5,HQ5,HS5⟩:=Ib (HB4.o.trans (HB45.o.mono HB4.o.size)) (HQ4.o.below HB45.o) (HS4.o.below HB45.o HS4.o.lt);obtain⟨x0,x1,x2⟩:=Jb HB5.o hfw HD0.o HD1.o HD2.o;obtain⟨z0,z1,z2⟩:=Jb HB5.o hsw HE0.o HE1.o HE2.o;obtain⟨k0,k1,k2,-⟩:=zc HS5.o
      skip)
     |(
      go_at_call 205;apply cM
      first
       |exact Qbe (HX.o.below HB5.o) HV5.o HXF.o (HYF.o.mul HF.o hyk) (by omega)
       |exact Qbe (HX.o.below HB5.o.drew) (HV5.o.below bR.drew) HXF.o (HYF.o.mul HF.o hyk) (by omega)
       |exact Qbe (HX.o.below HB5.o.drew.drew) (HV5.o.below bR.drew.drew) HXF.o (HYF.o.mul HF.o hyk) (by omega)
      rintro e6 w6 ⟨⟨v6,rfl,hv6⟩,hb6⟩;obtain⟨n6,a6,l6,c6,m6,o6,p6,rfl,hv6⟩:=hv6
      first
       |have HB56:O (Below w5.heap.size w5 w6):=Hi hb6
       |have HB56:O (Below w5.heap.size w5 w6):=Hi (bR.drew.trans hb6)
       |have HB56:O (Below w5.heap.size w5 w6):=Hi (bR.drew.drew.trans hb6)
      have HV6:O (FracV w6 (.agg #[.bool n6,.slice a6 l6 c6,.slice m6 o6 p6]) (e.q - s.q*q)):=Hi ⟨n6,a6,l6,c6,m6,o6,p6,rfl,hv6⟩;clear hv6 hb6;obtain⟨HB6,HQ6,HS6⟩:=Ib (HB5.o.trans (HB56.o.mono HB5.o.size)) (HQ5.o.below HB56.o) (HS5.o.below HB56.o HS5.o.lt);obtain⟨x0,x1,x2⟩:=Jb HB6.o hfw HD0.o HD1.o HD2.o;obtain⟨z0,z1,z2⟩:=Jb HB6.o hsw HE0.o HE1.o HE2.o;obtain⟨k0,k1,k2,-⟩:=zc HS6.o
      have f0:=HQ6.o.blk.free (k*3);have f1:=HQ6.o.blk.free (k*3+1);have f2:=HQ6.o.blk.free (k*3+2);obtain⟨gb,goff,hge,_,t0,t1,t2⟩:=HQ6.o.row.at (i:=k) (e:=e) (List.getElem?_set_self (by omega));cases hge;simp only[Nat.zero_add] at t0 t1 t2
      skip))
    all_goals
     go_wp2_with fail;obtain⟨HN,HS7,HB7⟩:=Ib (HQ6.o.set (k:=k) (e:=⟨.bool n6,.slice a6 l6 c6,.slice m6 o6 p6,e.q - s.q*q,e.k+(s.k+j)+1⟩) hkk ⟨HV6.o,HXF.o.sub (HYF.o.mul HF.o hyk),Nat.succ_pos _⟩) (((HS6.o.other n2.symm (k*3) (.bool n6)).other n2.symm (k*3+1) (.slice a6 l6 c6)).other n2.symm (k*3+2) (.slice m6 o6 p6)) (((HB6.o.setCell (p:=⟨g,k*3,none⟩) (Nat.le_of_lt hgw) (.bool n6)).setCell (p:=⟨g,k*3+1,none⟩) (Nat.le_of_lt hgw) (.slice a6 l6 c6)).setCell (p:=⟨g,k*3+2,none⟩) (Nat.le_of_lt hgw) (.slice m6 o6 p6));rw[List.set_set] at HN;refine⟨⟨k+1,_,by omega,by go_num,HM.o.step HE.o (by rw[HSQ.o]) (by show e.k+(s.k+j)+1<=B;omega),HN.o,HS7.o,HB7.o⟩,?_⟩;simp[intOf];omega
  .
   have hk':k=ts.length:=by omega
   subst hk';go_wp2;go_ret;exact⟨⟨g,us,rfl,by omega,HQ.o,HM.o⟩,HB.o⟩
theorem mr_sl(rs:List MR):∀v∈ rs.flatMap MR.cells,∃a n c,v=Value.slice a n c:=by
 intro v hv;obtain⟨r,_,hv⟩:=List.mem_flatMap.1 hv;exact⟨_,_,_,by simpa [MR.cells] using hv⟩
theorem Qkr:∀(rs:List MR) (k:Nat) (r:MR),(rs.set k r).flatMap MR.cells=(rs.flatMap MR.cells).set k (.slice r.a r.ts.length r.cap)
 | [],k,r=>by simp
 |t :: l,0,r=>by simp[MR.cells]
 |t :: l,k+1,r=>by
  have ih:=Qkr l k r;rw[List.set_cons_succ,List.flatMap_cons,ih,List.flatMap_cons];simp[MR.cells]
def MR.none:MR:=⟨.none,0,[]⟩
theorem Qti(n:Nat):madeCells (Value.cells (.slice .none 0 0)) n=((List.replicate n MR.none).flatMap MR.cells).toArray:=by
 have e:Value.cells (.slice .none 0 0)=#[.slice .none 0 0]:=by rfl
 rw[e];apply Array.ext';rw[toList_madeCells_one]
 induction n with
 |zero=>rfl
 |succ n ih=>
  simp only[List.toList_toArray] at ih ⊢;rw[List.replicate_succ,List.replicate_succ,List.flatMap_cons,<-ih];rfl
theorem Qcj:(prog.info? 190).map (fun i=>(i.zero,i.size,i.bytes))=some (some (.slice .none 0 0),1,24):=by kernel_rfl
theorem Qks(n:Nat)(hn:n<=1048576)(w:World):(Instr.makeSlice 186 (.int .i64 n) (.int .i64 n)).run prog w=.ok (.slice (some ⟨w.heap.size,0,.none⟩) n n) (w.alloc (.cells ((List.replicate n MR.none).flatMap MR.cells).toArray 190)):=by
 obtain⟨i,hi,h⟩:=Option.map_eq_some_iff.1 Qcj;simp only[Prod.mk.injEq] at h;obtain⟨hz,hs,hb⟩:=h;have:=run_make w 186 190 i _ underlying186 hi hz .i64 .i64 n n (by omega) (by omega) (by rw[hb];omega) (by omega);rw[Int.toNat_natCast,hs,Nat.mul_one,Qti] at this;exact this
end Go.Proofs.YtjgofdclmcpopaaGreatDoor
