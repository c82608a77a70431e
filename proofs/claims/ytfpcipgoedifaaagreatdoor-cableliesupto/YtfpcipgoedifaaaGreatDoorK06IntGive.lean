/- rafterbig's Int: give, SetInt64, NewInt, Set, Neg, Sign. -/
import Derived.Test.YtfpcipgoedifaaaGreatDoorK05BigDivM
namespace Go.Proofs.YtfpcipgoedifaaaGreatDoor
open Go.RowKit
set_option linter.unusedVariables false
theorem Qbv(p q:Nat):Nat.gcd q (p % q)=Nat.gcd p q:=by
 rw[Nat.gcd_comm q,<-Nat.gcd_rec,Nat.gcd_comm]
theorem U32.len_mono{w w':World}{a b:Option Addr}{c d:Nat}{l m:List Nat}{x y:Nat}(h:U32 w a c l x)(k:U32 w' b d m y)(hxy:x<=y):l.length<=m.length:=
 h.num.length_le_of_lt (by decide) (Nat.lt_of_le_of_lt hxy (by have:=Qab (B:=4294967296) (by decide) k.num.small;rw[k.num.eq] at this;exact this))
set_option maxRecDepth 100000 in
def ComExit(Qx:Exit->Act->World->Prop)(w0:World)(g B:Nat):Prop:=
 ∀(p q:Nat) (a b:Option Addr) (c d:Nat) (l m:List Nat) {s2 s3 s4 s5 s6 s7 s8 s9 s10 s11 s12 s13 s14 s15 s16 s17 s18 s19 s20 s21 s22 s23 s24 s25 s26 s27 s28 s29 s30 s31 s32 s33 s34 s35 s36 s37 s38 s39 s40 s41 s42 s43 s44 s45 s46 s47 s48:Value} (wr:World),U32 wr a c l p->U32 wr b d m q->l.length<=B->m.length<=2->Nat.gcd p q=g->Below w0.heap.size w0 wr->
  Qx (.exit 0) ⟨#[.slice a l.length c,.slice b m.length d,s2,s3,s4,s5,s6,s7,s8,s9,s10,s11,s12,s13,s14,s15,s16,s17,s18,s19,s20,s21,s22,s23,s24,s25,s26,s27,s28,s29,s30,s31,s32,s33,s34,s35,s36,s37,s38,s39,s40,s41,s42,s43,s44,s45,s46,s47,s48],[]⟩ wr
set_option maxRecDepth 100000 in
def ComAt(Qx:Exit->Act->World->Prop)(w0:World)(g B t:Nat):Prop:=
 ∀(p q:Nat) (a b:Option Addr) (c d:Nat) (l m:List Nat) {s2 s3 s4 s5 s6 s7 s8 s9 s10 s11 s12 s13 s14 s15 s16 s17 s18 s19 s20 s21 s22 s23 s24 s25 s26 s27 s28 s29 s30 s31 s32 s33 s34 s35 s36 s37 s38 s39 s40 s41 s42 s43 s44 s45 s46 s47 s48:Value} (wr:World),q<=t->U32 wr a c l p->U32 wr b d m q->l.length<=B->m.length<=B->Nat.gcd p q=g->Below w0.heap.size w0 wr->
  Code.rounds Tryz.prog (((Tryz.f111.body.map loopsIn).getD []).getD 0 .skip) Qx (t+1) ⟨#[.slice a l.length c,.slice b m.length d,s2,s3,s4,s5,s6,s7,s8,s9,s10,s11,s12,s13,s14,s15,s16,s17,s18,s19,s20,s21,s22,s23,s24,s25,s26,s27,s28,s29,s30,s31,s32,s33,s34,s35,s36,s37,s38,s39,s40,s41,s42,s43,s44,s45,s46,s47,s48],[]⟩ wr
set_option maxRecDepth 100000 in
set_option maxHeartbeats 1000000 in
theorem Qll(Qx:Exit->Act->World->Prop)(w0:World)(g B:Nat)(hB:B<1099511627770)(hexit:ComExit Qx w0 g B)(t:Nat):ComAt Qx w0 g B t:=by
 induction t with
 |zero=>
  intro p q a b c d l m
  iterate 47 intro
  intro wr ht h1 h2 hl hm hg hb;have hq:q=0:=by omega
  have hm0:=(h2.num.len_zero (by decide)).1 hq;have hmi:¬(2:Int)<(m.length:Int):=by omega
  have H1:=Hi h1;have H2:=Hi h2;have HG:=Hi hg;have HM:=Hi (show m.length<=2 by omega);clear h1 h2 hg hm0 hq;rw[rounds_succ]
  conv=>arg 2;whnf
  go_wp2;exact hexit _ _ _ _ _ _ _ _ _ H1.out H2.out hl HM.out HG.out hb
 |succ t ih=>
  intro p q a b c d l m
  iterate 47 intro
  intro wr ht h1 h2 hl hm hg hb;have H1:=Hi h1;have H2:=Hi h2;have HG:=Hi hg;by_cases hm2:m.length<=2
  ·
   have hmi:¬(2:Int)<(m.length:Int):=by omega
   clear h1 h2 hg;rw[rounds_succ]
   conv=>arg 2;whnf
   go_wp2;exact hexit _ _ _ _ _ _ _ _ _ H1.out H2.out hl hm2 HG.out hb
  ·
   have hmi:(2:Int)<(m.length:Int):=by omega
   have hq0:0<q:=by
    rcases Nat.eq_zero_or_pos q with h0|h0
    · have:=(h2.num.len_zero (by decide)).1 h0;omega
    · exact h0
   have HD:=Hi (Qa9 a b c d l m p q wr h1 h2 hq0 (by omega));clear h1 h2 hg;rw[rounds_succ]
   conv=>arg 2;whnf
   go_wp2_with fail;refine HD.out.mono ?_;rintro e w1 ⟨⟨a',c',r,a'',c'',r',rfl,hu1,hu2⟩,hb1⟩;go_wp2;exact ih q (p % q) b a'' d c'' m r' _ (by have:=Nat.mod_lt p hq0;omega) (H2.out.below hb1) hu2 hm (Nat.le_trans (hu2.len_mono H2.out (Nat.le_of_lt (Nat.mod_lt _ hq0))) hm) ((Qbv p q).trans HG.out) (hb.trans (hb1.mono hb.size))
theorem Qc2{l:List Nat}{x:Nat}(h:Num 4294967296 l x)(hl:l.length<=2):x<18446744073709551616:=by
 have e1:=Qab (B:=4294967296) (by decide) h.small;have e2:=Qb1 (B:=4294967296) (by decide) hl;rw[h.eq] at e1;exact Nat.lt_of_lt_of_le e1 e2
set_option maxRecDepth 100000 in
set_option maxHeartbeats 1000000 in
theorem Qgj(a1 a2:Option Addr)(c1 c2:Nat)(l m:List Nat)(x y:Nat)(w:World)(h1:U32 w a1 c1 l x)(h2:U32 w a2 c2 m y)(hl:l.length<1099511627770)(hm:m.length<1099511627770):
 Calls Tryz.prog 111 #[.slice a1 l.length c1,.slice a2 m.length c2] w fun e w'=>(∃a cap r,e=.returned (.slice a r.length cap)/\U32 w' a cap r (Nat.gcd x y))/\Below w.heap.size w w':=by
 obtain⟨g,hg⟩:=nm (Nat.gcd x y);rw[hg];go_enter Tryz.func111,Tryz.ntmps111;go_wp2;refine wp_loop_rounds (y+1) ?_;refine(Qll _ w g 1099511627769 (by decide) ?hex y) x y a1 a2 c1 c2 l m _ lZ h1 h2 (by omega) (by omega) hg bR
 case hex=>
  intro p q a b c d l m
  iterate 47 intro
  intro wr h1 h2 hl hm hg hb;by_cases hq:q=0
  ·
   have hm0:((m.length:Int) == 0)=true:=by have:=(h2.num.len_zero (by decide)).1 hq;simp[this]
   have HG:=Hi hg;have HQ:=Hi hq;clear hg hq;go_wp2;go_ret;have e1:=HG.out;rw[HQ.out,Nat.gcd_zero_right] at e1;exact⟨⟨a,c,l,rfl,by rw[<-e1];exact h1⟩,hb⟩
  ·
   have hm0:((m.length:Int) == 0)=false:=by
    rw[beq_eq_false_iff_ne];have:=(h2.num.len_zero (by decide)).2;omega
   by_cases hl2:l.length<=2
   ·
    have hli:¬(2:Int)<(l.length:Int):=by omega
    have HB:=Hi hb;have HG:=Hi hg;clear hg;go_wp2_with fail;refine(Qbw a c l p _ h1 hl2).mono ?_;rintro e wp ⟨rfl,rfl⟩;go_wp2_with fail;refine(Qbw b d m q _ h2 hm).mono ?_;rintro e wq ⟨rfl,rfl⟩;have hpb:p<18446744073709551616:=Qc2 h1.num hl2;have hqb:q<18446744073709551616:=Qc2 h2.num hm;go_wp2;go_loopw [9,10] (fun X Y ws=>∃u v:Nat,X=.int .u64 u/\Y=.int .u64 v/\u<18446744073709551616/\v<18446744073709551616/\Nat.gcd u v=g/\Below w.heap.size w ws) (fun _ Y _=>(intOf Y).toNat)
    case atStart=>exact⟨p,q,rfl,rfl,hpb,hqb,HG.out,HB.out⟩
    case round=>
     obtain⟨u,v,rfl,rfl,hu,hv,hgg,hbb⟩:=hrel;have HG:=Hi hgg;clear hgg;by_cases hv0:v=0
     ·
      subst hv0;go_wp2_with fail;refine(Qbi (u:Int) _ (by omega) (by omega)).mono ?_;rintro e w9 ⟨⟨a9,c9,r9,rfl,hu9,_⟩,hb9⟩;go_wp2;go_ret;have e1:=HG.out;rw[Nat.gcd_zero_right] at e1;rw[Int.toNat_natCast,e1] at hu9;exact⟨⟨a9,c9,r9,rfl,hu9⟩,hbb.trans (hb9.mono hbb.size)⟩
     ·
      have hvi:(0:Int)<(v:Int):=by omega
      have qv:((v:Int) == 0)=false:=by rw[beq_eq_false_iff_ne];omega
      obtain⟨r,hr⟩:=nm (u % v);have t2:(u:Int) % (v:Int)=(r:Int):=by rw[<-hr];simp
      have t3:(u:Int).tmod (v:Int)=(r:Int):=by rw[Int.tmod_eq_emod_of_nonneg (by omega)];exact t2
      have hrv:r<v:=by rw[<-hr];exact Nat.mod_lt _ (by omega)
      have HR:=Hi hr;clear hr;go_wp2;go_region
      all_goals
       go_wp2;go_roundw
       case rel=>exact⟨v,r,rfl,rfl,hv,by omega,by rw[<-HR.out];exact(Qbv u v).trans HG.out,hbb.drew⟩
       case measure=>simp[intOf];omega
   ·
    have hli:(2:Int)<(l.length:Int):=by omega
    have HD:=Hi (Qa9 a b c d l m p q wr h1 h2 (by omega) (by omega));have HB:=Hi hb;have HG:=Hi hg;clear hg;go_wp2_with fail;refine HD.out.mono ?_;rintro e w1 ⟨⟨a',c',r1,a'',c'',r',rfl,hu1,hu2⟩,hb1⟩;have h2':=h2.below hb1;have hr2:r'.length<=2:=Nat.le_trans (hu2.len_mono h2 (Nat.le_of_lt (Nat.mod_lt _ (by omega)))) hm;have HB1:=Hi (HB.out.trans (hb1.mono HB.out.size));have HG1:=Hi ((Qbv p q).trans HG.out);clear hb1 hu1 HD;go_wp2_with fail;refine(Qbw b d m q _ h2' hm).mono ?_;rintro e wp ⟨rfl,rfl⟩;go_wp2_with fail;refine(Qbw a'' c'' r' (p % q) _ hu2 hr2).mono ?_;rintro e wq ⟨rfl,rfl⟩;have hpb:q<18446744073709551616:=Qc2 h2'.num hm;have hqb:(p % q)<18446744073709551616:=Qc2 hu2.num hr2;go_wp2;go_loopw [9,10] (fun X Y ws=>∃u v:Nat,X=.int .u64 u/\Y=.int .u64 v/\u<18446744073709551616/\v<18446744073709551616/\Nat.gcd u v=g/\Below w.heap.size w ws) (fun _ Y _=>(intOf Y).toNat)
    case atStart=>exact⟨q,(p % q),rfl,rfl,hpb,hqb,HG1.out,HB1.out⟩
    case round=>
     obtain⟨u,v,rfl,rfl,hu,hv,hgg,hbb⟩:=hrel;have HG:=Hi hgg;clear hgg;by_cases hv0:v=0
     ·
      subst hv0;go_wp2_with fail;refine(Qbi (u:Int) _ (by omega) (by omega)).mono ?_;rintro e w9 ⟨⟨a9,c9,r9,rfl,hu9,_⟩,hb9⟩;go_wp2;go_ret;have e1:=HG.out;rw[Nat.gcd_zero_right] at e1;rw[Int.toNat_natCast,e1] at hu9;exact⟨⟨a9,c9,r9,rfl,hu9⟩,hbb.trans (hb9.mono hbb.size)⟩
     ·
      have hvi:(0:Int)<(v:Int):=by omega
      have qv:((v:Int) == 0)=false:=by rw[beq_eq_false_iff_ne];omega
      obtain⟨r,hr⟩:=nm (u % v);have t2:(u:Int) % (v:Int)=(r:Int):=by rw[<-hr];simp
      have t3:(u:Int).tmod (v:Int)=(r:Int):=by rw[Int.tmod_eq_emod_of_nonneg (by omega)];exact t2
      have hrv:r<v:=by rw[<-hr];exact Nat.mod_lt _ (by omega)
      have HR:=Hi hr;clear hr;go_wp2;go_region
      all_goals
       go_wp2;go_roundw
       case rel=>exact⟨v,r,rfl,rfl,hv,by omega,by rw[<-HR.out];exact(Qbv u v).trans HG.out,hbb.drew⟩
       case measure=>simp[intOf];omega
def SB(w:World)(b:Nat)(t:TypeId)(C:Array Value):Prop:=w.heap[b]?=some (.cells C t (0,0))
def NoInt(C:Array Value):Prop:=∀(i:Nat) (k:IntKind) (n:Int),C[i]?≠some (Value.int k n)
theorem SB.lt{w:World}{b:Nat}{t:TypeId}{C:Array Value}(h:SB w b t C):b<w.heap.size:=by
 apply bC;intro hc;unfold SB at h;rw[Array.getElem?_eq_none (by omega)] at h;cases h
theorem SB.cell{w:World}{b:Nat}{t:TypeId}{C:Array Value}(h:SB w b t C)(i:Nat):w.cell? ⟨b,i,none⟩=C[i]?:=by
 unfold SB at h;simp[World.cell?,h]
theorem SB.free{w:World}{b:Nat}{t:TypeId}{C:Array Value}(h:SB w b t C)(i:Nat):w.frozen? ⟨b,i,none⟩=false:=by
 unfold SB at h;simp[World.frozen?,h]
theorem SB.set{w:World}{b:Nat}{t:TypeId}{C:Array Value}(h:SB w b t C)(i:Nat)(v:Value):SB (w.setCell ⟨b,i,none⟩ v) b t (C.setIfInBounds i v):=by
 unfold SB at h ⊢;simp[World.setCell,Array.getElem?_modify,h]
theorem SB.alloc{w:World}{b:Nat}{t:TypeId}{C:Array Value}(h:SB w b t C)(o:Obj):SB (w.alloc o) b t C:=by
 have:=h.lt;unfold SB at h ⊢;rw[Below.heap_alloc _ _ _ this];exact h
theorem SB.new(w:World)(t:TypeId)(C:Array Value):SB (w.alloc (.cells C t)) w.heap.size t C:=by
 show (w.heap.push _)[w.heap.size]?=_
 simp
theorem SB.below{w w':World}{b B:Nat}{t:TypeId}{C:Array Value}(h:SB w b t C)(hb:Below B w w')(hB:b<B):SB w' b t C:=by
 unfold SB at h ⊢;rw[hb.block b hB];exact h
structure Only (b:Nat) (w w':World):Prop where
 os:w'.os=w.os
 tape:w'.tape=w.tape
 output:w'.output=w.output
 size:w.heap.size<=w'.heap.size
 block:∀k,k<w.heap.size->k≠b->w'.heap[k]?=w.heap[k]?
theorem Only.refl(b:Nat)(w:World):Only b w w:=⟨rfl,rfl,rfl,Nat.le_refl _,fun _ _ _=>rfl⟩
theorem Only.trans{b:Nat}{u v w:World}(h:Only b u v)(k:Only b v w):Only b u w:=
 ⟨k.os.trans h.os,k.tape.trans h.tape,k.output.trans h.output,Nat.le_trans h.size k.size,fun i hi hne=>(k.block i (by have:=h.size;omega) hne).trans (h.block i hi hne)⟩
theorem Only.of_below{b:Nat}{w w':World}(h:Below w.heap.size w w'):Only b w w':=⟨h.os,h.tape,h.output,h.size,fun k hk _=>h.block k hk⟩
theorem Only.setCell{b:Nat}{u w:World}(h:Only b u w)(i:Nat)(v:Value):Only b u (w.setCell ⟨b,i,none⟩ v):=
 ⟨h.os,h.tape,h.output,by have:=h.size;simpa [World.setCell] using this,fun k hk hne=>(Below.heap_setCell _ _ _ _ hne).trans (h.block k hk hne)⟩
theorem Only.drew{b:Nat}{u w:World}(h:Only b u w):Only b u w.drew:=⟨h.os,h.tape,h.output,h.size,h.block⟩
theorem Only.drewN{b:Nat}{u w:World}(h:Only b u w)(n:Nat):Only b u (w.drewN n):=⟨h.os,h.tape,h.output,h.size,h.block⟩
theorem Only.below{b B:Nat}{w w':World}(h:Only b w w')(hB:B<=b)(hw:B<=w.heap.size):Below B w w':=⟨h.os,h.tape,h.output,h.size,fun k hk=>h.block k (by omega) (by omega)⟩
theorem Only.fresh{b:Nat}{u w w':World}(h:Below u.heap.size u w)(k:Only b w w')(hb:u.heap.size<=b):Below u.heap.size u w':=
 h.trans (k.below hb h.size)
theorem SB.only{w w':World}{b c:Nat}{t:TypeId}{C:Array Value}(h:SB w b t C)(k:Only c w w')(hne:b≠c):SB w' b t C:=by
 have:=h.lt;unfold SB at h ⊢;rw[k.block b this hne];exact h
theorem Row.only{k:IntKind}{w w':World}{a:Option Addr}{cap:Nat}{l:List Nat}{b:Nat}{t:TypeId}{C:Array Value}(h:Row k w a cap l)(ho:Only b w w')(hs:SB w b t C)(hn:NoInt C):Row k w' a cap l:=by
 refine⟨h.fit,?_,fun i hi=>?_⟩
 ·
  rcases h.shape with h1|⟨b',off,rfl,h2⟩
  · exact .inl h1
  · exact .inr ⟨b',off,rfl,by have:=ho.size;omega⟩
 ·
  obtain⟨b',off,h1,h2,h3⟩:=h.cell i hi;have hne:b'≠b:=by
   rintro rfl;rw[hs.cell] at h3;exact hn _ _ _ h3
  exact⟨b',off,h1,by have:=ho.size;omega,(World.cell?_of_block (w:=w) (ho.block b' h2 hne)).trans h3⟩
theorem U32.only{w w':World}{a:Option Addr}{cap:Nat}{l:List Nat}{n b:Nat}{t:TypeId}{C:Array Value}(h:U32 w a cap l n)(ho:Only b w w')(hs:SB w b t C)(hn:NoInt C):U32 w' a cap l n:=
 ⟨h.row.only ho hs hn,h.num,h.short⟩
structure IntAt (w:World) (b o:Nat) (z:Int) (a:Option Addr) (cap:Nat) (l:List Nat):Prop where
 neg:w.cell? ⟨b,o,none⟩=some (.bool (decide (z<0)))
 abs:w.cell? ⟨b,o+1,none⟩=some (.slice a l.length cap)
 num:U32 w a cap l z.natAbs
 lt:b<w.heap.size
theorem IntAt.below{w w':World}{b o:Nat}{z:Int}{a:Option Addr}{cap:Nat}{l:List Nat}(h:IntAt w b o z a cap l)(hb:Below w.heap.size w w'):IntAt w' b o z a cap l:=
 ⟨ce hb h.lt h.neg,ce hb h.lt h.abs,h.num.below hb,by have:=h.lt;have:=hb.size;omega⟩
def putInt(C:Array Value)(o:Nat)(neg:Bool)(v:Value):Array Value:=(C.setIfInBounds (o+1) v).setIfInBounds o (.bool neg)
structure Laid (w w':World) (b o:Nat) (t:TypeId) (C:Array Value) (z:Int) (a:Option Addr) (cap:Nat) (l:List Nat):Prop where
 sb:SB w' b t (putInt C o (decide (z<0)) (.slice a l.length cap))
 num:U32 w' a cap l z.natAbs
 only:Only b w w'
theorem Laid.at{w w':World}{b o:Nat}{t:TypeId}{C:Array Value}{z:Int}{a:Option Addr}{cap:Nat}{l:List Nat}(h:Laid w w' b o t C z a cap l)(ho:o+1<C.size):IntAt w' b o z a cap l:=by
 refine⟨?_,?_,h.num,h.sb.lt⟩
 · have h2:o<C.size:=by omega
   rw[h.sb.cell];simp[putInt,h2]
 · rw[h.sb.cell];simp[putInt,ho]
def ZC(w:World)(b:Nat):List Value→Prop
 |[x0]=>w.cell? ⟨b,0,none⟩=some x0∧True
 |[x0,x1]=>w.cell? ⟨b,0,none⟩=some x0∧w.cell? ⟨b,1,none⟩=some x1∧True
 |[x0,x1,x2]=>w.cell? ⟨b,0,none⟩=some x0∧w.cell? ⟨b,1,none⟩=some x1∧w.cell? ⟨b,2,none⟩=some x2∧True
 |[x0,x1,x2,x3]=>w.cell? ⟨b,0,none⟩=some x0∧w.cell? ⟨b,1,none⟩=some x1∧w.cell? ⟨b,2,none⟩=some x2∧w.cell? ⟨b,3,none⟩=some x3∧True
 |[x0,x1,x2,x3,x4]=>w.cell? ⟨b,0,none⟩=some x0∧w.cell? ⟨b,1,none⟩=some x1∧w.cell? ⟨b,2,none⟩=some x2∧w.cell? ⟨b,3,none⟩=some x3∧w.cell? ⟨b,4,none⟩=some x4∧True
 |[x0,x1,x2,x3,x4,x5]=>w.cell? ⟨b,0,none⟩=some x0∧w.cell? ⟨b,1,none⟩=some x1∧w.cell? ⟨b,2,none⟩=some x2∧w.cell? ⟨b,3,none⟩=some x3∧w.cell? ⟨b,4,none⟩=some x4∧w.cell? ⟨b,5,none⟩=some x5∧True
 |_=>True
theorem zc{w:World}{b:Nat}{t:TypeId}{l:List Value}(h:SB w b t l.toArray):ZC w b l:=by
 unfold ZC
 split
 all_goals first|trivial|exact⟨h.cell 0,trivial⟩|exact⟨h.cell 0,h.cell 1,trivial⟩|exact⟨h.cell 0,h.cell 1,h.cell 2,trivial⟩|exact⟨h.cell 0,h.cell 1,h.cell 2,h.cell 3,trivial⟩|exact⟨h.cell 0,h.cell 1,h.cell 2,h.cell 3,h.cell 4,trivial⟩|exact⟨h.cell 0,h.cell 1,h.cell 2,h.cell 3,h.cell 4,h.cell 5,trivial⟩
theorem Qid{C:Array Value}{i:Nat}(h:i<C.size):∃v,C[i]?=some v:=⟨C[i],by simp[h]⟩
theorem Qpb(z:Int)(neg:Bool)(n:Nat)(hz:z=if neg then -(n:Int) else (n:Int)):decide (z<0)=(neg && decide (0<n)):=by
 subst hz;cases neg
 · simp
 ·
  by_cases h:0<n
  · simp[h]
  ·
   have:n=0:=by omega
   subst this;simp
set_option maxHeartbeats 400000 in
theorem Qbo(b o:Nat)(t:TypeId)(C:Array Value)(neg:Bool)(a:Option Addr)(cap:Nat)(l:List Nat)(n:Nat)(z:Int)(w:World)(hs:SB w b t C)(hn:NoInt C)(ho:o+1<C.size)(hu:U32 w a cap l n)(hz:z=if neg then -(n:Int) else (n:Int)):
 Calls Tryz.prog 69 #[.pointer (some ⟨b,o,none⟩),.bool neg,.slice a l.length cap] w fun e w'=>e=.returned (.pointer (some ⟨b,o,none⟩))/\Laid w w' b o t C z a cap l:=by
 obtain⟨v0,hv0⟩:=Qid (C:=C) (i:=o) (by omega);obtain⟨v1,hv1⟩:=Qid (C:=C) (i:=o+1) ho;have k0:=hs.cell o;have k1:=hs.cell (o+1);rw[hv0] at k0;rw[hv1] at k1;have f0:=hs.free o;have f1:=hs.free (o+1);have hzn:z.natAbs=n:=by rw[hz];split<;>omega
 have hsg:=Qpb z neg n hz;have hlen:decide (0<n)=decide (0<l.length):=by
  have:=hu.num.len_zero (by decide);apply decide_eq_decide.2;omega
 have HS:=Hi hs;have HZN:=Hi hzn;have HSG:=Hi (hsg.trans (by rw[hlen]));clear hs hzn hsg hlen hz hv0 hv1;cases neg
 ·
  go_enter Tryz.func69,Tryz.ntmps69;go_wp2;go_ret;have ho':Only b w ((w.setCell ⟨b,o+1,none⟩ (.slice a l.length cap)).setCell ⟨b,o,none⟩ (.bool false)):=((Only.refl b w).setCell _ _).setCell _ _;refine⟨rfl,⟨?_,?_,ho'⟩⟩
  · rw[HSG.out];exact(HS.out.set (o+1) _).set o _
  · rw[HZN.out];exact hu.only ho' HS.out hn
 ·
  go_enter Tryz.func69,Tryz.ntmps69;go_wp2;go_ret;have ho':Only b w ((w.setCell ⟨b,o+1,none⟩ (.slice a l.length cap)).setCell ⟨b,o,none⟩ (.bool (decide (0<l.length)))):=((Only.refl b w).setCell _ _).setCell _ _;refine⟨rfl,⟨?_,?_,ho'⟩⟩
  · rw[HSG.out];exact(HS.out.set (o+1) _).set o _
  · rw[HZN.out];exact hu.only ho' HS.out hn
def LaidOk(w:World)(b o:Nat)(t:TypeId)(C:Array Value)(z:Int)(e:Ending)(w':World):Prop:=
 e=.returned (.pointer (some ⟨b,o,none⟩))/\∃a cap l,Laid w w' b o t C z a cap l
theorem LaidOk.of{w w1 w':World}{b o:Nat}{t:TypeId}{C:Array Value}{z:Int}{e:Ending}(h:Only b w w1)(k:LaidOk w1 b o t C z e w'):LaidOk w b o t C z e w':=by
 obtain⟨h1,a,cap,l,h2⟩:=k;exact⟨h1,a,cap,l,⟨h2.sb,h2.num,h.trans h2.only⟩⟩
set_option maxHeartbeats 400000 in
theorem Qie(b o:Nat)(t:TypeId)(C:Array Value)(z:Int)(w:World)(hs:SB w b t C)(hn:NoInt C)(ho:o+1<C.size)(h0:0<=z)(h1:z<1000000):
 Calls Tryz.prog 70 #[.pointer (some ⟨b,o,none⟩),.int .i64 z] w (LaidOk w b o t C z):=by
 obtain⟨n,rfl⟩:=Int.eq_ofNat_of_zero_le h0;have HS:=Hi hs;have HN:=Hi hn;have hneg:¬((n:Int)<0):=by omega
 clear hs hn h0;go_enter Tryz.func70,Tryz.ntmps70;go_wp2_with fail;refine(Qbi (n:Int) _ (by omega) (by omega)).mono ?_;rintro e w1 ⟨⟨a,cap,l,rfl,hu,_⟩,hb⟩;rw[Int.toNat_natCast] at hu;go_wp2_with fail;refine(Qbo b o t C false a cap l n n w1 (HS.out.below hb HS.out.lt) HN.out ho hu (by simp)).mono ?_;rintro e w2 ⟨rfl,hl⟩;go_wp2;go_ret;exact LaidOk.of (Only.of_below hb) ⟨rfl,_,_,_,hl⟩
theorem Tryz.int_zero:NoInt #[Value.bool false,Value.slice none 0 0]:=by
 intro i k n
 match i with
 |0=>simp
 |1=>simp
 |i+2=>simp
def IntNew(w:World)(z:Int)(e:Ending)(w':World):Prop:=
 (∃b a cap l,e=.returned (.pointer (some ⟨b,0,none⟩))/\w.heap.size<=b/\SB w' b 53 #[.bool (decide (z<0)),.slice a l.length cap]/\U32 w' a cap l z.natAbs)/\Below w.heap.size w w'
set_option maxHeartbeats 400000 in
theorem Qci(z:Int)(w:World)(h0:0<=z)(h1:z<1000000):
 Calls Tryz.prog 34 #[.int .i64 z] w (IntNew w z):=by
 go_enter Tryz.func34,Tryz.ntmps34;go_wp2_with fail;refine(Qie w.heap.size 0 53 _ z _ (SB.new w 53 _) Tryz.int_zero (by simp) h0 h1).mono ?_;rintro e w2 ⟨rfl,a,cap,l,hl⟩;go_wp2;go_ret;exact⟨⟨w.heap.size,a,cap,l,rfl,Nat.le_refl _,hl.sb,hl.num⟩,Only.fresh ((Below.refl _ w).alloc lZ _) hl.only lZ⟩
end Go.Proofs.YtfpcipgoedifaaaGreatDoor
