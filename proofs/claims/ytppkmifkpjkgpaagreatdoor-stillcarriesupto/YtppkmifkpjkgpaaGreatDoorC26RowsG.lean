import Derived.Test.YtppkmifkpjkgpaaGreatDoorC25RefD
namespace Go.Proofs.YtppkmifkpjkgpaaGreatDoor
open Go.RowKit
open Go.Proofs.Tryz
set_option linter.unusedSimpArgs false
set_option linter.unusedVariables false
set_option maxHeartbeats 8000000
set_option maxRecDepth 1000000
theorem Qs1(g h i:Vx)(c1 c2 c3:Nat)(a:List S2)(b:List B6)(d:List H3)(w:Vz)(j:Glob w)(k:FrRow w g h i c1 c2 c3 a b d)(l:FrSized a b d):
 Calls prog 7 #[.agg #[.slice g a.length c1,.slice h b.length c2,.slice i d.length c3]] w fun e w'=>∃c f,e=.returned (.agg #[.int .i64 c,.int .i64 f])/\FrameFault a b d c f/\Below w.heap.size w w':=by
 by_cases m:Many a.length b.length d.length
 . exact Qsx g h i c1 c2 c3 a b d w j k l m
 . exact Qs0 g h i c1 c2 c3 a b d w j k l m
theorem Glob.stay:Stay Glob:=⟨fun _ _ a h=>h.below a⟩
theorem Lent.stay(a b c:Nat)(d:List S2)(e:List B6)(f:List H3):Stay (fun w=>Lent w a b c d e f):=⟨fun _ _ g h=>h.below g⟩
theorem FrRow.stay(a b c:Vx)(c1 c2 c3:Nat)(d:List S2)(e:List B6)(f:List H3):Stay (fun w=>FrRow w a b c c1 c2 c3 d e f):=⟨fun _ _ g h=>h.below g⟩
theorem SB.arow{α:Type}{c:α->List Value}{w:Vz}{g cap:Nat}{t:Vr}{C:Vw}{a:List α}(h:SB w g t C)(b:C.toList=a.flatMap c)(hl:a.length<=cap):ARow c w (some ⟨g,0,none⟩) cap a:=by
 refine⟨hl,⟨fun j u d=>⟨g,0,rfl,h.lt,?_⟩⟩⟩;rw[Nat.zero_add,h.cell j,<-Array.getElem?_toList,b];exact d
abbrev tx0:ByteArray:=⟨#[48]⟩
abbrev tx1:ByteArray:=⟨#[49]⟩
def cornerJ:List S2:=[⟨tx0,tx0⟩,⟨tx1,tx0⟩,⟨tx0,tx1⟩]
def cornerBar(a b:Int):B6:=⟨a,b,tx1,⟨#[]⟩,⟨#[45,49]⟩,⟨#[50]⟩⟩
def cornerB:List B6:=[cornerBar 0 1,cornerBar 1 2,cornerBar 2 0]
def cornerH:List H3:=[⟨0,1,⟨#[]⟩⟩,⟨0,2,⟨#[]⟩⟩,⟨1,2,⟨#[]⟩⟩]
theorem Tryz.barInfo:(prog.info? 80).map (·.size)=some 6:=by kernel_rfl
theorem Qe7(a b:Int)(w:Vz):Calls prog 61 #[.int .i64 a,.int .i64 b] w fun e w'=>e=.returned (.agg #[.int .i64 a,.int .i64 b,.string ⟨#[49]⟩,.string ⟨#[]⟩,.string ⟨#[45,49]⟩,.string ⟨#[50]⟩])/\Below w.heap.size w w':=by
 go_enter func61,ntmps61;go_wp2;refine bodyPost_ret (results_cell_row rfl _ _ w.heap.size 80 #[.int .i64 a,.int .i64 b,.string ⟨#[49]⟩,.string ⟨#[]⟩,.string ⟨#[45,49]⟩,.string ⟨#[50]⟩] (0,0) _ rfl (SB.new w _ _) underlying80 rfl Tryz.barInfo) rfl ?_;exact⟨rfl,bR.alloc lZ _⟩
theorem Qe8(w:Vz):Calls prog 28 #[] w fun e w'=>∃h f z,e=.returned (.agg #[.slice (some ⟨h,0,none⟩) 3 3,.slice (some ⟨f,0,none⟩) 3 3,.slice (some ⟨z,0,none⟩) 3 3])/\FrRow w' (some ⟨h,0,none⟩) (some ⟨f,0,none⟩) (some ⟨z,0,none⟩) 3 3 3 cornerJ cornerB cornerH/\Below w.heap.size w w':=by
 go_enter func28,ntmps28;go_wp2_with fail;obtain⟨W,r⟩:=nm (w.alloc (.cells #[.slice none 0 0,.slice none 0 0,.slice none 0 0] 26));have a:O (PBag w W [fun v=>SB v w.heap.size 26 #[.slice none 0 0,.slice none 0 0,.slice none 0 0]]):=Hi (by rw[<-r];exact((PBag.start w).below (bR.alloc lZ _)).put (P:=fun v=>SB v w.heap.size 26 #[.slice none 0 0,.slice none 0 0,.slice none 0 0]) (SB.new w _ _) (SB.stay _ _ _));rw[r];clear r;go_fit (Qes ⟨#[48]⟩ ⟨#[48]⟩ W);rintro e w1 ⟨rfl,d⟩;have c:=Hi (a.o.below d);clear a d;have a:=c;clear c;go_wp2_with fail;go_fit (Qes ⟨#[49]⟩ ⟨#[48]⟩ w1);rintro e w2 ⟨rfl,d⟩;have c:=Hi (a.o.below d);clear a d;have a:=c;clear c;go_wp2_with fail;go_fit (Qes ⟨#[48]⟩ ⟨#[49]⟩ w2);rintro e s ⟨rfl,d⟩;have c:=Hi (a.o.below d);clear a d;have a:=c;clear c;obtain⟨h,j⟩:=nm s.heap.size
 obtain⟨A,hv3⟩:=nm (s.alloc (.cells #[.string ⟨#[48]⟩,.string ⟨#[48]⟩,.string ⟨#[49]⟩,.string ⟨#[48]⟩,.string ⟨#[48]⟩,.string ⟨#[49]⟩] 56));have c:=Hi ((a.o.below (w':=A) (by rw[<-hv3];exact(Below.refl _ _).alloc lZ _)).put (P:=fun v=>SB v h 56 #[.string ⟨#[48]⟩,.string ⟨#[48]⟩,.string ⟨#[49]⟩,.string ⟨#[48]⟩,.string ⟨#[48]⟩,.string ⟨#[49]⟩]) (by rw[<-hv3,<-j];exact SB.new s _ _) (SB.stay _ _ _));have k:w.heap.size≠h:=by have:=a.o.base.size;have:=(a.o.get (fun v=>SB v w.heap.size 26 #[.slice none 0 0,.slice none 0 0,.slice none 0 0]) (List.Mem.head _)).lt;omega
 clear a;have a:=c;obtain⟨t,u⟩:=Ia hv3 j;clear c hv3 j;go_wp2_with fail;rw[t.o,u.o];go_fit (Qe7 0 1 A);rintro e B ⟨rfl,d⟩;have c:=Hi (a.o.below d);clear a d;have a:=c;clear c;go_wp2_with fail;go_fit (Qe7 1 2 B);rintro e C ⟨rfl,d⟩;have c:=Hi (a.o.below d);clear a d;have a:=c;clear c;go_wp2_with fail;go_fit (Qe7 2 0 C);rintro e n ⟨rfl,d⟩;have c:=Hi (a.o.below d);clear a d;have a:=c;clear c;obtain⟨f,i⟩:=nm n.heap.size
 obtain⟨q,g⟩:=nm ((n.alloc (.cells #[.int .i64 0,.int .i64 1,.string ⟨#[49]⟩,.string ⟨#[]⟩,.string ⟨#[45,49]⟩,.string ⟨#[50]⟩,.int .i64 1,.int .i64 2,.string ⟨#[49]⟩,.string ⟨#[]⟩,.string ⟨#[45,49]⟩,.string ⟨#[50]⟩,.int .i64 2,.int .i64 0,.string ⟨#[49]⟩,.string ⟨#[]⟩,.string ⟨#[45,49]⟩,.string ⟨#[50]⟩] 80)).alloc (.cells #[.int .i64 0,.int .i64 1,.string ⟨#[]⟩,.int .i64 0,.int .i64 2,.string ⟨#[]⟩,.int .i64 1,.int .i64 2,.string ⟨#[]⟩] 83))
 have c:=Hi (((a.o.below (w':=q) (by rw[<-g];exact Below.new2 n _ _)).put (P:=fun v=>SB v f 80 #[.int .i64 0,.int .i64 1,.string ⟨#[49]⟩,.string ⟨#[]⟩,.string ⟨#[45,49]⟩,.string ⟨#[50]⟩,.int .i64 1,.int .i64 2,.string ⟨#[49]⟩,.string ⟨#[]⟩,.string ⟨#[45,49]⟩,.string ⟨#[50]⟩,.int .i64 2,.int .i64 0,.string ⟨#[49]⟩,.string ⟨#[]⟩,.string ⟨#[45,49]⟩,.string ⟨#[50]⟩]) (by rw[<-g,<-i];exact(SB.new n _ _).alloc _) (SB.stay _ _ _)).put (P:=fun v=>SB v (f+1) 83 #[.int .i64 0,.int .i64 1,.string ⟨#[]⟩,.int .i64 0,.int .i64 2,.string ⟨#[]⟩,.int .i64 1,.int .i64 2,.string ⟨#[]⟩]) (by rw[<-g,<-i];exact SB.new2 n _ _ _ _) (SB.stay _ _ _));have b:=a.o.get (fun v=>SB v w.heap.size 26 #[.slice none 0 0,.slice none 0 0,.slice none 0 0]) (by
  (focus(repeat(first|exact mH|apply mT)))
  skip)
 have l:w.heap.size≠f:=by have:=b.lt;omega
 have m:w.heap.size≠f+1:=by have:=b.lt;omega
 clear a b;have a:=c;have b:=a.o.get (fun v=>SB v w.heap.size 26 #[.slice none 0 0,.slice none 0 0,.slice none 0 0]) (by
  (focus(repeat(first|exact mH|apply mT)))
  skip)
 obtain⟨D,E,F,-⟩:=zc b;have f0:=b.free 0;have f1:=b.free 1;have f2:=b.free 2;rw[<-g] at D E F f0 f1 f2;obtain⟨p,x,y⟩:=Ib b g i;clear c g i b;go_wp2;rw[x.o,y.o];have G:=a.o.get (fun v=>SB v h 56 #[.string ⟨#[48]⟩,.string ⟨#[48]⟩,.string ⟨#[49]⟩,.string ⟨#[48]⟩,.string ⟨#[48]⟩,.string ⟨#[49]⟩]) (by
  (focus(repeat(first|exact mH|apply mT)))
  skip)
 have H:=a.o.get (fun v=>SB v f 80 #[.int .i64 0,.int .i64 1,.string ⟨#[49]⟩,.string ⟨#[]⟩,.string ⟨#[45,49]⟩,.string ⟨#[50]⟩,.int .i64 1,.int .i64 2,.string ⟨#[49]⟩,.string ⟨#[]⟩,.string ⟨#[45,49]⟩,.string ⟨#[50]⟩,.int .i64 2,.int .i64 0,.string ⟨#[49]⟩,.string ⟨#[]⟩,.string ⟨#[45,49]⟩,.string ⟨#[50]⟩]) (by
  (focus(repeat(first|exact mH|apply mT)))
  skip)
 have I:=a.o.get (fun v=>SB v (f+1) 83 #[.int .i64 0,.int .i64 1,.string ⟨#[]⟩,.int .i64 0,.int .i64 2,.string ⟨#[]⟩,.int .i64 1,.int .i64 2,.string ⟨#[]⟩]) (by
  (focus(repeat(first|exact mH|apply mT)))
  skip)
 have J:ARow S2.cells q (some ⟨h,0,none⟩) 3 cornerJ:=G.arow rfl (by decide);have K:ARow B6.cells q (some ⟨f,0,none⟩) 3 cornerB:=H.arow rfl (by decide);have L:ARow H3.cells q (some ⟨f+1,0,none⟩) 3 cornerH:=I.arow rfl (by decide);refine bodyPost_ret (results_cell_row rfl _ _ w.heap.size 26 #[.slice (some ⟨h,0,none⟩) 3 3,.slice (some ⟨f,0,none⟩) 3 3,.slice (some ⟨f+1,0,none⟩) 3 3] (0,0) _ rfl (((p.o.set 0 _).set 1 _).set 2 _) underlying26 rfl Tryz.frameInfo) rfl ?_;exact⟨h,f,f+1,rfl,⟨((J.far k).far k).far k,((K.far l).far l).far l,((L.far m).far m).far m⟩,((a.o.base.setCell lZ _).setCell lZ _).setCell lZ _⟩
theorem Qgz(a b c:Vx)(c1 c2 c3 n m k:Nat)(w:Vz)(d:m<=24)(hk:k<=20):
 Calls prog 39 #[.agg #[.slice a n c1,.slice b m c2,.slice c k c3]] w fun e w'=>e=.returned (.int .i64 ((m:Int)+(k:Int)))/\Below w.heap.size w w':=by
 go_enter func39,ntmps39;go_wp2;go_ret;exact⟨rfl,bR.alloc lZ _⟩
theorem Qg0(a b c:Vx)(c1 c2 c3 n m k:Nat)(w:Vz)(d:n<=10):
 Calls prog 40 #[.agg #[.slice a n c1,.slice b m c2,.slice c k c3]] w fun e w'=>e=.returned (.int .i64 (2*(n:Int)))/\Below w.heap.size w w':=by
 go_enter func40,ntmps40;go_wp2;go_ret;exact⟨rfl,bR.alloc lZ _⟩
theorem Qet(j:Nat)(w:Vz)(a:j<=10):Calls prog 80 #[.int .i64 j] w fun e w'=>e=.returned (.int .i64 (2*(j:Int)))/\w'=w:=by
 go_enter func80,ntmps80;go_wp2;go_ret;exact⟨rfl,rfl⟩
theorem Qeu(j:Nat)(w:Vz)(a:j<=10):Calls prog 81 #[.int .i64 j] w fun e w'=>e=.returned (.int .i64 (2*(j:Int)+1))/\w'=w:=by
 go_enter func81,ntmps81;go_wp2;go_ret;exact⟨rfl,rfl⟩
theorem Qvi(j:Nat)(a:Int)(q:Vs)(w:Vz)(b:j<=10):Calls prog 83 #[.agg #[.int .i64 j,.int .i64 a,.string q]] w fun e w'=>e=.returned (.int .i64 (if a=1 then 2*(j:Int) else 2*(j:Int)+1))/\Below w.heap.size w w':=by
 have c:=Hi ((Below.refl w.heap.size w).alloc lZ (.cells #[.int .i64 j,.int .i64 a,.string q] 83));by_cases h:a=1
 .
  subst h;rw[if_pos rfl];go_enter func83,ntmps83;go_wp2_with fail;go_fit (Qet j _ b);rintro e w1 ⟨rfl,rfl⟩;go_wp2;go_ret;exact⟨rfl,c.o⟩
 .
  rw[if_neg h];have d:(a == 1)=false:=by rw[beq_eq_false_iff_ne];exact h
  clear h;go_enter func83,ntmps83;go_wp2_with fail;go_fit (Qeu j _ b);rintro e w1 ⟨rfl,rfl⟩;go_wp2;go_ret;exact⟨rfl,c.o⟩
def FE.cells(t:FE):List Value:=[t.x,t.y,t.z]
structure QRow (w:Vz) (a:Vx) (cap:Nat) (ts:List FE):Prop where
 row:ARow FE.cells w a cap ts
 ts:∀t,t∈ ts->FracV w (.agg #[t.x,t.y,t.z]) t.q/\Fits t.q t.k/\0<t.k
theorem QRow.below{w w':Vz}{a:Vx}{cap:Nat}{ts:List FE}(h:QRow w a cap ts)(b:Below w.heap.size w w'):QRow w' a cap ts:=
 ⟨h.row.below b,fun t c=>⟨(h.ts t c).1.below b,(h.ts t c).2⟩⟩
theorem QRow.at{w:Vz}{a:Vx}{cap:Nat}{ts:List FE}(h:QRow w a cap ts){i:Nat}{e:FE}(f:ts[i]?=some e):
 ∃b c,a=some ⟨b,c,none⟩/\b<w.heap.size/\w.cell? ⟨b,c+i*3,none⟩=some e.x/\w.cell? ⟨b,c+i*3+1,none⟩=some e.y/\w.cell? ⟨b,c+i*3+2,none⟩=some e.z:=by
 obtain⟨b,c,g,j,d⟩:=h.row.at (sz:=3) (fun _=>rfl) (by decide) f;exact⟨b,c,g,j,d 0 _ rfl,d 1 _ rfl,d 2 _ rfl⟩
theorem QRow.get{w:Vz}{a:Vx}{cap:Nat}{ts:List FE}(h:QRow w a cap ts){i:Nat}{e:FE}(b:ts[i]?=some e):FracV w (.agg #[e.x,e.y,e.z]) e.q/\Fits e.q e.k/\0<e.k:=h.ts e (mO b)
def filledOf(ts:List FE):Nat:=ts.countP fun t=>!decide (t.q=0)
theorem Quf{ts:List FE}{k:Nat}{e:FE}(h:ts[k]?=some e):filledOf (ts.take (k+1))=filledOf (ts.take k)+if e.q=0 then 0 else 1:=by
 unfold filledOf;rw[List.take_add_one,h,List.countP_append];by_cases a:e.q=0<;>simp[a]
theorem Qk1(ts:List FE):filledOf ts<=ts.length:=List.countP_le_length
theorem Qug(a:Vx)(cap:Nat)(ts:List FE)(w:Vz)(h:QRow w a cap ts)(hl:ts.length<=1000):
 Calls prog 159 #[.slice a ts.length cap] w fun e w'=>e=.returned (.int .i64 (filledOf ts:Nat))/\Below w.heap.size w w':=by
 have v:=Hi h;clear h;go_enter func159,ntmps159;go_wp2_with fail;go_loopw [3,8] (fun n i wr=>∃k:Nat,k<=ts.length/\i=.int .i64 k/\n=.int .i64 (filledOf (ts.take k):Nat)/\Below w.heap.size w wr) (fun _ i _=>ts.length - (intOf i).toNat)
 case atStart=>exact⟨0,by omega,rfl,rfl,Below.refl _ _⟩
 case round=>
  obtain⟨k,hk,rfl,rfl,A⟩:=hrel;have g:=Hi A;clear A;by_cases r:k<ts.length
  .
   obtain⟨f,p⟩:∃f,ts[k]?=some f:=⟨ts[k],gE r⟩;obtain⟨P,F,rfl,G,d0,d1,d2⟩:=(v.o.below g.o).at p;obtain⟨s,_,_⟩:=(v.o.below g.o).get p;have b:=Hi (Quf p);have H:filledOf (ts.take k)<=1000:=by
    have Q:=Qk1 (ts.take k);have R:=List.length_take_le k ts;omega
   obtain⟨B,C,D⟩:=s.one;obtain⟨m,E⟩:=nm (filledOf (ts.take k));rw[E] at H b ⊢;have I:=Hi s;have S:((k:Int)<(ts.length:Int)):=by omega
   obtain⟨V,t⟩:=nm (wr.alloc (.cells #[f.x,f.y,f.z] 141));have c:=Ua t;have J:=Hi t;have K:=Qa2 prog B;have L:=Qa2 prog C;have M:=Qa2 prog D;clear p s E t B C D;go_wp2_with fail;rw[J.o];go_fit (Qcf (I.o.below c.o));rintro e T ⟨rfl,j⟩;have l:=Hi (g.o.trans ((c.o.trans (j.mono c.o.size)).mono g.o.size));clear j d0 d1 d2 K L M;by_cases d:f.q=0
   .
    rw[decide_eq_true d];rw[if_pos d] at b;clear d;go_wp2;go_roundw
    case rel=>exact⟨k+1,by omega,by go_num,by rw[b.o];rfl,l.o⟩
    case measure=>simp[intOf];omega
   .
    rw[decide_eq_false d];rw[if_neg d] at b;clear d;go_wp2;go_roundw
    case rel=>exact⟨k+1,by omega,by go_num,by rw[b.o];go_num,l.o⟩
    case measure=>simp[intOf];omega
  .
   have u:k=ts.length:=by omega
   subst u;have N:O (filledOf (ts.take ts.length)=filledOf ts):=Hi (by rw[List.take_length]);rw[N.o];go_wp2;go_ret;exact⟨rfl,g.o⟩
structure MR where
 a:Option Addr
 cap:Nat
 ts:List FE
def MR.cells(r:MR):List Value:=[.slice r.a r.ts.length r.cap]
def MR.q(r:MR)(c:Nat):Rat:=(r.ts.map (·.q)).getD c 0
theorem MR.q_at{r:MR}{c:Nat}{e:FE}(h:r.ts[c]?=some e):r.q c=e.q:=by
 unfold MR.q;simp[List.getD,h]
structure QMat (w:Vz) (a:Vx) (cap wide:Nat) (rs:List MR):Prop where
 row:ARow MR.cells w a cap rs
 rs:∀r,r∈ rs->QRow w r.a r.cap r.ts/\r.ts.length=wide
theorem QMat.below{w w':Vz}{a:Vx}{cap wide:Nat}{rs:List MR}(h:QMat w a cap wide rs)(b:Below w.heap.size w w'):QMat w' a cap wide rs:=
 ⟨h.row.below b,fun t c=>⟨(h.rs t c).1.below b,(h.rs t c).2⟩⟩
theorem QMat.at{w:Vz}{a:Vx}{cap wide:Nat}{rs:List MR}(h:QMat w a cap wide rs){i:Nat}{r:MR}(d:rs[i]?=some r):
 ∃b c,a=some ⟨b,c,none⟩/\b<w.heap.size/\w.cell? ⟨b,c+i,none⟩=some (.slice r.a r.ts.length r.cap):=by
 obtain⟨b,c,e,f,g⟩:=h.row.at (sz:=1) (fun _=>rfl) (by decide) d;refine⟨b,c,e,f,?_⟩;have:=g 0 _ rfl;rw[Nat.mul_one] at this;exact this
theorem QMat.get{w:Vz}{a:Vx}{cap wide:Nat}{rs:List MR}(h:QMat w a cap wide rs){i:Nat}{r:MR}(b:rs[i]?=some r):QRow w r.a r.cap r.ts/\r.ts.length=wide:=h.rs r (mO b)
def Picks(rs:List MR)(c:Nat)(v:Int):Prop:=
 (v= -1/\∀r∈ rs,r.q c=0)∨∃j r,rs[j]?=some r/\v=(j:Nat)/\r.q c≠0
theorem Picks.skip{rs:List MR}{c k:Nat}{v:Int}{r:MR}(h:Picks (rs.take k) c v)(e:rs[k]?=some r)(f:r.q c=0):Picks (rs.take (k+1)) c v:=by
 rw[List.take_add_one,e];rcases h with ⟨b,d⟩|⟨j,s,b,d,g⟩
 .
  refine .inl ⟨b,fun x a=>?_⟩;rcases List.mem_append.1 a with a|a
  . exact d x a
  . obtain rfl:x=r:=by simpa using a
    exact f
 . exact .inr ⟨j,s,by rw[List.getElem?_append_left (gZ b).1];exact b,d,g⟩
theorem Picks.keep{rs:List MR}{c k j:Nat}{r:MR}(h:Picks (rs.take k) c (j:Nat))(d:rs[k]?=some r):Picks (rs.take (k+1)) c (j:Nat):=by
 rw[List.take_add_one,d];rcases h with ⟨a,b⟩|⟨i,s,a,b,e⟩
 . omega
 . exact .inr ⟨i,s,by rw[List.getElem?_append_left (gZ a).1];exact a,b,e⟩
theorem Picks.this{rs:List MR}{c k:Nat}{r:MR}(a:rs[k]?=some r)(b:r.q c≠0):Picks (rs.take (k+1)) c (k:Nat):=
 .inr ⟨k,r,by rw[List.getElem?_take_of_lt (Nat.lt_succ_self k)];exact a,rfl,b⟩
theorem Quh(a:Vx)(cap wide c:Nat)(rs:List MR)(w:Vz)(h:QMat w a cap wide rs)(hl:rs.length<=1000)(hw:wide<=1000)(N:c<wide):
 Calls prog 125 #[.slice a rs.length cap,.int .i64 c] w fun e w'=>(∃v,e=.returned (.int .i64 v)/\Picks rs c v)/\Below w.heap.size w w':=by
 have P:=Hi h;clear h;go_enter func125,ntmps125;go_wp2_with fail;go_loopw [5,6,12] (fun u f i wr=>∃(k m:Nat) (v:Int),k<=rs.length/\i=.int .i64 k/\u=.int .i64 v/\f=.int .i64 m/\m<=1000/\Picks (rs.take k) c v/\Below w.heap.size w wr) (fun _ _ i _=>rs.length - (intOf i).toNat)
 case atStart=>exact⟨0,0,-1,by omega,rfl,rfl,rfl,by omega,.inl ⟨rfl,fun r s=>by simp at s⟩,Below.refl _ _⟩
 case round=>
  obtain⟨k,m,v,hk,rfl,rfl,rfl,Q,R,S⟩:=hrel;obtain⟨x,A⟩:=Ia S R;clear S R;by_cases G:k<rs.length
  .
   obtain⟨r,s⟩:∃r,rs[k]?=some r:=⟨rs[k],gE G⟩;obtain⟨fb,U,rfl,V,d⟩:=(P.o.below x.o).at s;obtain⟨B,H⟩:=(P.o.below x.o).get s;obtain⟨e,C⟩:∃e,r.ts[c]?=some e:=⟨r.ts[c],gE (by omega)⟩;obtain⟨rb,ro,b,W,d0,d1,d2⟩:=B.at C;obtain⟨D,_,_⟩:=B.get C;obtain⟨X,E,T,Y⟩:=Ic B s (MR.q_at C) D;have q1:((k:Int)<(rs.length:Int)):=by omega
   have q2:((c:Int)<(r.ts.length:Int)):=by omega
   rw[b] at d;have I:=Hi b;clear s B C D b;go_wp2_with fail;go_fit (Qcf Y.o);rintro Z w4 ⟨rfl,l⟩;obtain⟨n,J⟩:=Ia (x.o.trans (l.mono x.o.size)) (X.o.below l);clear l d0 d1 d2 d;by_cases t:e.q=0
   .
    rw[decide_eq_true t];have F:O (r.q c=0):=Hi (T.o.trans t);clear t;go_wp2;go_roundw
    case measure=>simp[intOf];omega
    case rel=>exact⟨k+1,m,v,by omega,by go_num,rfl,rfl,Q,A.o.skip E.o F.o,n.o⟩
   .
    rw[decide_eq_false t];have F:O (r.q c≠0):=Hi (fun N=>t (T.o.symm.trans N));have hf:=Qk1 r.ts;clear t;go_wp2_with fail;have K:=Hi (Qug r.a r.cap r.ts w4 J.o (by omega));rw[I.o,H] at K;obtain⟨g,y⟩:=nm (filledOf r.ts);rw[y] at K hf;clear y;go_fit K.o;rintro Z w5 ⟨rfl,z⟩;have p:=Hi (n.o.trans (z.mono n.o.size));clear z;have y:g<=1000:=by omega
    by_cases D:v<0
    .
     clear A;go_wp2;go_roundw
     case measure=>simp[intOf];omega
     case rel=>exact⟨k+1,g,k,by omega,by go_num,rfl,rfl,y,Picks.this E.o F.o,p.o⟩
    .
     obtain⟨j,rfl⟩:∃j:Nat,v=j:=⟨v.toNat,by omega⟩;clear D;by_cases aa:(g:Int)<(m:Int)
     .
      go_wp2;go_roundw
      case measure=>simp[intOf];omega
      case rel=>exact⟨k+1,g,k,by omega,by go_num,rfl,rfl,y,Picks.this E.o F.o,p.o⟩
     .
      go_wp2;go_roundw
      case measure=>simp[intOf];omega
      case rel=>exact⟨k+1,m,j,by omega,by go_num,rfl,rfl,Q,A.o.keep E.o,p.o⟩
  .
   have L:k=rs.length:=by omega
   subst L;have M:O (Picks rs c v):=Hi (by have:=A.o;rw[List.take_length] at this;exact this);go_wp2;go_ret;exact⟨⟨v,rfl,M.o⟩,x.o⟩
def FE.zero:FE:=⟨.bool false,.slice none 0 0,.slice none 0 0,0,1⟩
structure QBlk (w:Vz) (g:Nat) (ts:List FE):Prop where
 blk:SB w g 141 (ts.flatMap FE.cells).toArray
 ts:∀t,t∈ ts->FracV w (.agg #[t.x,t.y,t.z]) t.q/\Fits t.q t.k/\0<t.k
theorem QBlk.row{w:Vz}{g:Nat}{ts:List FE}(h:QBlk w g ts):QRow w (some ⟨g,0,none⟩) ts.length ts:=⟨h.blk.arow rfl lZ,h.ts⟩
theorem QBlk.below{w w':Vz}{g:Nat}{ts:List FE}(h:QBlk w g ts)(a:Below w.heap.size w w'):QBlk w' g ts:=⟨h.blk.below a h.blk.lt,fun t b=>⟨(h.ts t b).1.below a,(h.ts t b).2⟩⟩
theorem QBlk.no64{w:Vz}{g:Nat}{ts:List FE}(h:QBlk w g ts):NoU64 (ts.flatMap FE.cells).toArray:=by
 refine Qib fun v a n=>?_
 obtain⟨t,b,a⟩:=List.mem_flatMap.1 a;obtain⟨c,d,e⟩:=(h.ts t b).1.no64 n;simp[FE.cells] at a;rcases a with rfl|rfl|rfl
 . exact c
 . exact d
 . exact e
theorem Qk2:∀(ts:List FE) (k:Nat) (e:FE),k<ts.length->(ts.set k e).flatMap FE.cells=(((ts.flatMap FE.cells).set (k*3) e.x).set (k*3+1) e.y).set (k*3+2) e.z
 | [],k,e,h=>by simp at h
 |t :: l,0,e,_=>by simp[FE.cells]
 |t :: l,k+1,e,h=>by
  have a:=Qk2 l k e (by simpa using h);rw[List.set_cons_succ,List.flatMap_cons,a,List.flatMap_cons];simp only[FE.cells,List.cons_append,List.nil_append];rw[show (k+1)*3=k*3+1+1+1 by omega];simp only[List.set_cons_succ,Nat.add_assoc]
theorem QBlk.set{w:Vz}{g:Nat}{ts:List FE}(h:QBlk w g ts){k:Nat}{e:FE}(hk:k<ts.length)(b:FracV w (.agg #[e.x,e.y,e.z]) e.q/\Fits e.q e.k/\0<e.k):
 QBlk (((w.setCell ⟨g,k*3,none⟩ e.x).setCell ⟨g,k*3+1,none⟩ e.y).setCell ⟨g,k*3+2,none⟩ e.z) g (ts.set k e):=by
 have c:Only g w (((w.setCell ⟨g,k*3,none⟩ e.x).setCell ⟨g,k*3+1,none⟩ e.y).setCell ⟨g,k*3+2,none⟩ e.z):=(((Only.refl g w).setCell _ _).setCell _ _).setCell _ _;refine⟨?_,fun t a=>?_⟩
 .
  have:=((h.blk.set (k*3) e.x).set (k*3+1) e.y).set (k*3+2) e.z;rw[Qk2 ts k e hk]
  simpa using this
 .
  rcases List.mem_or_eq_of_mem_set a with a|rfl
  . exact⟨(h.ts t a).1.only c h.blk h.no64,(h.ts t a).2⟩
  . exact⟨b.1.only c h.blk h.no64,b.2⟩
theorem QBlk.new(w:Vz)(n:Nat)(C:Vw)(hC:C=((List.replicate n FE.zero).flatMap FE.cells).toArray):QBlk (w.alloc (.cells C 141)) w.heap.size (List.replicate n FE.zero):=by
 subst hC;refine⟨SB.new _ _ _,fun t a=>?_⟩;obtain⟨_,rfl⟩:=List.mem_replicate.1 a;exact⟨FracV.zero _,Fits.zero,by decide⟩
theorem Qui(n:Nat):madeCells (Value.cells (.agg #[.bool false,.slice none 0 0,.slice none 0 0])) (n*3)=((List.replicate n FE.zero).flatMap FE.cells).toArray:=by
 apply Array.ext';apply List.ext_getElem?;intro i;by_cases d:i<n*3
 .
  have b:(List.replicate n FE.zero)[i / 3]?=some FE.zero:=by rw[List.getElem?_replicate,if_pos (by omega)]
  have a:i % 3=0∨i % 3=1∨i % 3=2:=by omega
  have e:Value.cells (.agg #[.bool false,.slice none 0 0,.slice none 0 0])=#[.bool false,.slice none 0 0,.slice none 0 0]:=by rfl
  have f:i / 3*3+i % 3=i:=by omega
  have g:(madeCells (Value.cells (.agg #[.bool false,.slice none 0 0,.slice none 0 0])) (n*3)).toList[i]?=some ((#[Value.bool false,.slice none 0 0,.slice none 0 0]:Array Value)[i % 3]!):=by
   rw[e];simp[madeCells,d]
  rw[g];have c:∀u,(FE.cells FE.zero)[i % 3]?=some u->((List.replicate n FE.zero).flatMap FE.cells)[i]?=some u:=fun u h=>by
   have:=Qcx (sz:=3) (fun _=>rfl) _ _ _ _ _ b h;rw[f] at this;exact this
  simp only[List.toList_toArray];rcases a with a|a|a
  all_goals
   rw[a] at c ⊢;exact(c _ rfl).symm
 .
  have b:((List.replicate n FE.zero).flatMap FE.cells).length=n*3:=by rw[Qbb (sz:=3) (fun _=>rfl)];simp
  have j:=size_madeCells (Value.cells (.agg #[.bool false,.slice none 0 0,.slice none 0 0])) (n*3);rw[List.getElem?_eq_none (by rw[Array.length_toList,j];omega),List.getElem?_eq_none (by simp only[List.toList_toArray];rw[b];omega)]
theorem Qep:(prog.info? 141).map (fun i=>(i.zero,i.size,i.bytes))=some (some (.agg #[.bool false,.slice none 0 0,.slice none 0 0]),3,56):=by kernel_rfl
theorem Qdc(n:Nat)(e:n<=1048576)(w:Vz):(Instr.makeSlice 93 (.int .i64 n) (.int .i64 n)).run prog w=.ok (.slice (some ⟨w.heap.size,0,none⟩) n n) (w.alloc (.cells ((List.replicate n FE.zero).flatMap FE.cells).toArray 141)):=by
 obtain⟨i,a,h⟩:=Option.map_eq_some_iff.1 Qep;simp only[Prod.mk.injEq] at h;obtain⟨b,c,d⟩:=h;have:=run_make w 93 141 i _ underlying93 a b .i64 .i64 n n (by omega) (by omega) (by rw[d];omega) (by omega);rw[Int.toNat_natCast,c,Qui] at this;exact this
def Made(f:Nat->Rat->Rat)(B:Nat)(ts us:List FE)(k:Nat):Prop:=
 us.length=ts.length/\∀i e,i<k->ts[i]?=some e->∃u,us[i]?=some u/\u.q=f i e.q/\u.k<=B
theorem Made.start(f:Nat->Rat->Rat)(B:Nat)(ts:List FE):Made f B ts (List.replicate ts.length FE.zero) 0:=⟨by simp,fun i e a=>by omega⟩
theorem Made.step{f:Nat->Rat->Rat}{B:Nat}{ts us:List FE}{k:Nat}{e u:FE}(h:Made f B ts us k)(b:ts[k]?=some e)(d:u.q=f k e.q)(hB:u.k<=B):Made f B ts (us.set k u) (k+1):=by
 have hk:=(gZ b).1;refine⟨by rw[List.length_set];exact h.1,fun i x m c=>?_⟩;rcases Nat.lt_or_ge i k with a|g
 . obtain⟨y,j,l⟩:=h.2 i x a c
   exact⟨y,by rw[List.getElem?_set_ne (by omega)];exact j,l⟩
 .
  obtain rfl:i=k:=by omega
  obtain rfl:=Option.some.inj (b.symm.trans c);exact⟨u,by rw[List.getElem?_set_self (by rw[h.1];exact hk)],d,hB⟩
theorem Quj(a:Vx)(cap B j:Nat)(ts:List FE)(b1 b2 u:Value)(q:Rat)(w:Vz)(h:QRow w a cap ts)(hl:ts.length<=1000)(hv:FracV w (.agg #[b1,b2,u]) q)(hq:Fits q j)(hj:0<j)(hB:∀t∈ ts,t.k+j<=B)(an:B<68719476000):
 Calls prog 136 #[.slice a ts.length cap,.agg #[b1,b2,u]] w fun e w'=>(∃g us,e=.returned (.slice (some ⟨g,0,none⟩) ts.length ts.length)/\w.heap.size<=g/\QBlk w' g us/\Made (fun _ x=>x / q) B ts us ts.length)/\Below w.heap.size w w':=by
 obtain⟨R,HV,S,T⟩:=Ic h hv hq hB;have D:=fun w=>Qdc ts.length (by omega) w
 obtain⟨MC,f⟩:=nm (((List.replicate ts.length FE.zero).flatMap FE.cells).toArray);rw[f] at D;have U:=Hi f.symm;clear h hv hq hB f;go_enter func136,ntmps136;go_wp2_with fail;clear D;obtain⟨g,V⟩:=nm (w.heap.size+1);have l:w.heap.size<g:=by omega
 obtain⟨W,E⟩:=nm ((w.alloc (.cells #[b1,b2,u] 141)).alloc (.cells MC 141));have X:=Ub E;have Y:=Ud E;have Z:O (QBlk W g (List.replicate ts.length FE.zero)):=Hi (by rw[<-E,<-V];have:=QBlk.new (w.alloc (.cells #[b1,b2,u] 141)) ts.length MC U.o;simpa using this)
 try rw[E]
 try rw[V]
 clear E V;go_loopw [12] (fun i wr=>∃(k:Nat) (us:List FE),k<=ts.length/\i=.int .i64 k/\Made (fun _ x=>x / q) B ts us k/\QBlk wr g us/\SB wr w.heap.size 141 #[b1,b2,u]/\Below w.heap.size w wr) (fun i _=>ts.length - (intOf i).toNat)
 case atStart=>exact⟨0,_,by omega,rfl,Made.start _ _ _,Z.o,Y.o,X.o⟩
 case round=>
  obtain⟨k,us,hk,rfl,hm,m,hs,hb⟩:=hrel;obtain⟨A,HM,HQ,HS⟩:=Ic hb hm m hs;have ao:=hm.1;have ap:=m.blk.lt;clear hb hm m hs;by_cases aa:k<ts.length
  .
   obtain⟨e,C⟩:∃e,ts[k]?=some e:=⟨ts[k],gE aa⟩;obtain⟨Q,n,rfl,aq,_⟩:=R.o.at C;obtain⟨ar,al,ab,ad,d0,d1,d2⟩:=(R.o.below A.o).at C;cases ab;have n1:g≠Q:=by omega
   have n2:g≠w.heap.size:=by omega
   obtain⟨hx,F,G⟩:=(R.o.below A.o).get C;have ae:=T.o e (mO C);obtain⟨y0,H⟩:∃y0,us[k]?=some y0:=⟨us[k],gE (by omega)⟩;obtain⟨HE,HX,r,HY⟩:=Ic C hx F (HV.o.below A.o);obtain⟨k0,k1,k2,-⟩:=zc HS.o;have q1:((k:Int)<(ts.length:Int)):=by omega
   obtain⟨af,D0,D1,D2⟩:=Ic H d0 d1 d2;clear C hx F H;go_wp2_with fail;go_region_held3 (fun v=>v.cell? ⟨Q,n+k*3,none⟩=some e.x/\v.cell? ⟨Q,n+k*3+1,none⟩=some e.y/\v.cell? ⟨Q,n+k*3+2,none⟩=some e.z/\v.cell? ⟨w.heap.size,0,none⟩=some b1/\v.cell? ⟨w.heap.size,1,none⟩=some b2/\v.cell? ⟨w.heap.size,2,none⟩=some u) ((first|(simp [*];done)|go_keep)) (first
    |(
     go_at_call_of 129 e.x;apply cM
     first
      |exact Qcy HX.o HY.o r.o S.o (by omega)
      |exact Qcy (HX.o.below bR.drew) (HY.o.below bR.drew) r.o S.o (by omega)
     rintro e' w5 ⟨⟨v5,rfl,d⟩,s⟩;obtain⟨I,J,K,c5,L,M,N,rfl,d⟩:=d
     first
      |have b:O (Below wr.heap.size wr w5):=Hi s
      |have b:O (Below wr.heap.size wr w5):=Hi (bR.drew.trans s)
     have ag:O (FracV w5 (.agg #[.bool I,.slice J K c5,.slice L M N]) (e.q / q)):=Hi ⟨I,J,K,c5,L,M,N,rfl,d⟩;clear d s;have c:=Hi (HQ.o.below b.o);obtain⟨v0,v1,v2⟩:=Jb b.o ad D0.o D1.o D2.o;have P:=Hi (HS.o.below b.o HS.o.lt);obtain⟨u0,u1,u2,-⟩:=zc P.o;have f0:=c.o.blk.free (k*3);have f1:=c.o.blk.free (k*3+1);have f2:=c.o.blk.free (k*3+2);obtain⟨gb,am,ah,_,t0,t1,t2⟩:=c.o.row.at af.o;cases ah;simp only[Nat.zero_add] at t0 t1 t2
     skip))
   all_goals
    go_wp2_with fail;obtain⟨HN,ai,aj⟩:=Ib (c.o.set (k:=k) (e:=⟨.bool I,.slice J K c5,.slice L M N,e.q / q,e.k+j⟩) (by omega) ⟨ag.o,r.o.div S.o G hj,Nat.lt_add_right j G⟩) (((P.o.other n2.symm (k*3) (.bool I)).other n2.symm (k*3+1) (.slice J K c5)).other n2.symm (k*3+2) (.slice L M N)) ((((A.o.trans (b.o.mono A.o.size)).setCell (p:=⟨g,k*3,none⟩) (Nat.le_of_lt l) (.bool I)).setCell (p:=⟨g,k*3+1,none⟩) (Nat.le_of_lt l) (.slice J K c5)).setCell (p:=⟨g,k*3+2,none⟩) (Nat.le_of_lt l) (.slice L M N));refine⟨⟨k+1,_,by omega,by go_num,HM.o.step HE.o rfl ae,HN.o,ai.o,aj.o⟩,?_⟩;simp[intOf];omega
  .
   have ak:k=ts.length:=by omega
   subst ak;go_wp2;go_ret;exact⟨⟨g,us,rfl,by omega,HQ.o,HM.o⟩,A.o⟩
def qAt(ss:List FE)(i:Nat):Rat:=(ss.map (·.q)).getD i 0
theorem Quk{a:List FE}{i:Nat}{e:FE}(h:a[i]?=some e):qAt a i=e.q:=by
 unfold qAt;simp[List.getD,h]
theorem Qgv(a a':Vx)(cap cap' B j:Nat)(ts N:List FE)(b1 b2 Q:Value)(q:Rat)(w:Vz)(h:QRow w a cap ts)(h':QRow w a' cap' N)(bc:N.length=ts.length)(hl:ts.length<=1000)(hv:FracV w (.agg #[b1,b2,Q]) q)(hq:Fits q j)(hj:0<j)(hB:∀t∈ ts,∀s∈ N,t.k+s.k+j+1<=B)(bd:B<68719476000):
 Calls prog 128 #[.slice a ts.length cap,.slice a' ts.length cap',.agg #[b1,b2,Q]] w fun e w'=>(∃g us,e=.returned (.slice (some ⟨g,0,none⟩) ts.length ts.length)/\w.heap.size<=g/\QBlk w' g us/\Made (fun i x=>x - qAt N i*q) B ts us ts.length)/\Below w.heap.size w w':=by
 obtain⟨HH,HG,HV,R,aq⟩:=Id h h' hv hq hB;have ai:=fun w=>Qdc ts.length (by omega) w
 obtain⟨MC,S⟩:=nm (((List.replicate ts.length FE.zero).flatMap FE.cells).toArray);rw[S] at ai;have ar:=Hi S.symm;clear h h' hv hq hB S;go_enter func128,ntmps128;go_wp2_with fail;clear ai;obtain⟨g,hg⟩:=nm (w.heap.size+1);have m:w.heap.size<g:=by omega
 obtain⟨W,hW⟩:=nm ((w.alloc (.cells #[b1,b2,Q] 141)).alloc (.cells MC 141));have au:=Ub hW;have av:=Ud hW;have aw:O (QBlk W g (List.replicate ts.length FE.zero)):=Hi (by rw[<-hW,<-hg];have:=QBlk.new (w.alloc (.cells #[b1,b2,Q] 141)) ts.length MC ar.o;simpa using this)
 try rw[hW]
 try rw[hg]
 clear hW hg;go_loopw [14] (fun i wr=>∃(k:Nat) (us:List FE),k<=ts.length/\i=.int .i64 k/\Made (fun i x=>x - qAt N i*q) B ts us k/\QBlk wr g us/\SB wr w.heap.size 141 #[b1,b2,Q]/\Below w.heap.size w wr) (fun i _=>ts.length - (intOf i).toNat)
 case atStart=>exact⟨0,_,by omega,rfl,Made.start _ _ _,aw.o,av.o,au.o⟩
 case round=>
  obtain⟨k,us,hk,rfl,hm,T,P,hb⟩:=hrel;obtain⟨HB,HM,HQ,HS⟩:=Ic hb hm T P;have be:=hm.1;have bf:=T.blk.lt;clear hb hm T P;by_cases ax:k<ts.length
  .
   obtain⟨e,he⟩:∃e,ts[k]?=some e:=⟨ts[k],gE ax⟩;obtain⟨s,P⟩:∃s,N[k]?=some s:=⟨N[k],gE (by omega)⟩;obtain⟨fb,U,rfl,E,D0,D1,D2⟩:=HH.o.at he;obtain⟨sb,r,rfl,u,E0,E1,E2⟩:=HG.o.at P;obtain⟨hx,V,ay⟩:=HH.o.get he;obtain⟨hy,aj,F⟩:=HG.o.get P;have bg:=aq.o e (mO he) s (mO P);obtain⟨y0,ak⟩:∃y0,us[k]?=some y0:=⟨us[k],gE (by omega)⟩;have n1:g≠fb:=by omega
   have n2:g≠w.heap.size:=by omega
   have n3:g≠sb:=by omega
   obtain⟨HE,al,HX,G,HY,f,X,Y,Z⟩:=Ih he (Quk P) hx V hy aj D0 D1 D2;obtain⟨aa,ab,ad⟩:=Ib E0 E1 E2;obtain⟨o1,o2,o3⟩:=hx.one;have az:=Qa2 prog o1;have a0:=Qa2 prog o2;have a1:=Qa2 prog o3;obtain⟨d0,d1,d2⟩:=Jb HB.o E D0 D1 D2;have q1:((k:Int)<(ts.length:Int)):=by omega
   have f0:=HQ.o.blk.free (k*3);have f1:=HQ.o.blk.free (k*3+1);have f2:=HQ.o.blk.free (k*3+2);obtain⟨gb,am,ae,_,t0,t1,t2⟩:=HQ.o.row.at ak;cases ae;simp only[Nat.zero_add] at t0 t1 t2;obtain⟨W1,n⟩:=nm (((wr.setCell ⟨g,k*3,none⟩ e.x).setCell ⟨g,k*3+1,none⟩ e.y).setCell ⟨g,k*3+2,none⟩ e.z);have a2:O (QBlk W1 g (us.set k e)):=Hi (by rw[<-n];exact HQ.o.set (by omega) ⟨hx.below HB.o,V,ay⟩);have an:O (SB W1 w.heap.size 141 #[b1,b2,Q]):=Hi (by rw[<-n];exact((HS.o.other n2.symm _ _).other n2.symm _ _).other n2.symm _ _);have A:O (Below w.heap.size w W1):=Hi (by rw[<-n];exact((HB.o.setCell (p:=⟨g,k*3,none⟩) (Nat.le_of_lt m) _).setCell (p:=⟨g,k*3+1,none⟩) (Nat.le_of_lt m) _).setCell (p:=⟨g,k*3+2,none⟩) (Nat.le_of_lt m) _);obtain⟨s0,s1⟩:=Ja A.o u E0 E1
   have s2:=ce A.o u E2;rw[<-n] at s0 s1 s2;have a3:=Hi n;clear he P hx V hy aj ak n o1 o2 o3 D0 D1 D2 E0 E1 E2;go_wp2_with fail;rw[a3.o];clear s0 s1 s2 d0 d1 d2 f0 f1 f2 t0 t1 t2 az a0 a1;go_fit (Qcf (HY.o.below A.o));rintro e' w4 ⟨rfl,H⟩;obtain⟨b,ao,I⟩:=Ib (A.o.trans (H.mono A.o.size)) (a2.o.below H) (an.o.below H an.o.lt);clear H;by_cases h0:s.q=0
   .
    rw[decide_eq_true h0];have HZ:O (e.q=e.q - qAt N k*q):=Hi (by rw[al.o,h0,Rat.zero_mul,Rat.sub_eq_add_neg,Rat.neg_zero,Rat.add_zero]);clear h0;go_wp2;go_roundw
    case rel=>exact⟨k+1,_,by omega,by go_num,HM.o.step HE.o HZ.o (by omega),ao.o,I.o,b.o⟩
    case measure=>simp[intOf];omega
   .
    rw[decide_eq_false h0];clear h0;go_wp2_with fail;obtain⟨x0,x1,x2⟩:=Jb b.o E X.o Y.o Z.o;obtain⟨z0,z1,z2⟩:=Jb b.o u aa.o ab.o ad.o;obtain⟨k0,k1,k2,-⟩:=zc I.o;have a4:k<(us.set k e).length:=by rw[List.length_set];omega
    go_region_held3 (fun v=>v.cell? ⟨fb,U+k*3,none⟩=some e.x/\v.cell? ⟨fb,U+k*3+1,none⟩=some e.y/\v.cell? ⟨fb,U+k*3+2,none⟩=some e.z/\v.cell? ⟨sb,r+k*3,none⟩=some s.x/\v.cell? ⟨sb,r+k*3+1,none⟩=some s.y/\v.cell? ⟨sb,r+k*3+2,none⟩=some s.z/\v.cell? ⟨w.heap.size,0,none⟩=some b1/\v.cell? ⟨w.heap.size,1,none⟩=some b2/\v.cell? ⟨w.heap.size,2,none⟩=some Q) ((first|(simp [*];done)|go_keep)) (first
     |(
      go_at_call 160;apply cM
      first
       |exact Qfl (HY.o.below b.o) (HV.o.below b.o) f.o R.o (by omega)
       |exact Qfl (HY.o.below b.o.drew) (HV.o.below b.o.drew) f.o R.o (by omega)
       |exact Qfl (HY.o.below b.o.drew.drew) (HV.o.below b.o.drew.drew) f.o R.o (by omega)
      rintro e5 D ⟨⟨v5,rfl,J⟩,K⟩;obtain⟨n5,a5,l5,c5,m5,o5,p5,rfl,J⟩:=J
      first
       |have c:O (Below w4.heap.size w4 D):=Hi K
       |have c:O (Below w4.heap.size w4 D):=Hi (bR.drew.trans K)
       |have c:O (Below w4.heap.size w4 D):=Hi (bR.drew.drew.trans K)
      have af:O (FracV D (.agg #[.bool n5,.slice a5 l5 c5,.slice m5 o5 p5]) (s.q*q)):=Hi ⟨n5,a5,l5,c5,m5,o5,p5,rfl,J⟩;clear J K;obtain⟨l,a7,ag⟩:=Ib (b.o.trans (c.o.mono b.o.size)) (ao.o.below c.o) (I.o.below c.o I.o.lt);obtain⟨x0,x1,x2⟩:=Jb l.o E X.o Y.o Z.o;obtain⟨z0,z1,z2⟩:=Jb l.o u aa.o ab.o ad.o;obtain⟨k0,k1,k2,-⟩:=zc ag.o
      skip)
     |(
      go_at_call 101;apply cM
      first
       |exact Qbl (HX.o.below l.o) af.o G.o (f.o.mul R.o F) (by omega)
       |exact Qbl (HX.o.below l.o.drew) (af.o.below bR.drew) G.o (f.o.mul R.o F) (by omega)
       |exact Qbl (HX.o.below l.o.drew.drew) (af.o.below bR.drew.drew) G.o (f.o.mul R.o F) (by omega)
      rintro e6 w6 ⟨⟨v6,rfl,L⟩,M⟩;obtain⟨n6,a6,l6,c6,m6,o6,p6,rfl,L⟩:=L
      first
       |have d:O (Below D.heap.size D w6):=Hi M
       |have d:O (Below D.heap.size D w6):=Hi (bR.drew.trans M)
       |have d:O (Below D.heap.size D w6):=Hi (bR.drew.drew.trans M)
      have a8:O (FracV w6 (.agg #[.bool n6,.slice a6 l6 c6,.slice m6 o6 p6]) (e.q - s.q*q)):=Hi ⟨n6,a6,l6,c6,m6,o6,p6,rfl,L⟩;clear L M;obtain⟨ah,C,ap⟩:=Ib (l.o.trans (d.o.mono l.o.size)) (a7.o.below d.o) (ag.o.below d.o ag.o.lt);obtain⟨x0,x1,x2⟩:=Jb ah.o E X.o Y.o Z.o;obtain⟨z0,z1,z2⟩:=Jb ah.o u aa.o ab.o ad.o;obtain⟨k0,k1,k2,-⟩:=zc ap.o
      have f0:=C.o.blk.free (k*3);have f1:=C.o.blk.free (k*3+1);have f2:=C.o.blk.free (k*3+2);obtain⟨gb,am,ae,_,t0,t1,t2⟩:=C.o.row.at (i:=k) (e:=e) (List.getElem?_set_self (by omega));cases ae;simp only[Nat.zero_add] at t0 t1 t2
      skip))
    all_goals
     go_wp2_with fail;obtain⟨HN,a9,ba⟩:=Ib (C.o.set (k:=k) (e:=⟨.bool n6,.slice a6 l6 c6,.slice m6 o6 p6,e.q - s.q*q,e.k+(s.k+j)+1⟩) a4 ⟨a8.o,G.o.sub (f.o.mul R.o F),Nat.succ_pos _⟩) (((ap.o.other n2.symm (k*3) (.bool n6)).other n2.symm (k*3+1) (.slice a6 l6 c6)).other n2.symm (k*3+2) (.slice m6 o6 p6)) (((ah.o.setCell (p:=⟨g,k*3,none⟩) (Nat.le_of_lt m) (.bool n6)).setCell (p:=⟨g,k*3+1,none⟩) (Nat.le_of_lt m) (.slice a6 l6 c6)).setCell (p:=⟨g,k*3+2,none⟩) (Nat.le_of_lt m) (.slice m6 o6 p6));rw[List.set_set] at HN;refine⟨⟨k+1,_,by omega,by go_num,HM.o.step HE.o (by rw[al.o]) (by show e.k+(s.k+j)+1<=B;omega),HN.o,a9.o,ba.o⟩,?_⟩;simp[intOf];omega
  .
   have bb:k=ts.length:=by omega
   subst bb;go_wp2;go_ret;exact⟨⟨g,us,rfl,by omega,HQ.o,HM.o⟩,HB.o⟩
theorem mr_sl(rs:List MR):∀v∈ rs.flatMap MR.cells,∃a n c,v=Value.slice a n c:=by
 intro v b;obtain⟨r,_,b⟩:=List.mem_flatMap.1 b;exact⟨_,_,_,by simpa [MR.cells] using b⟩
theorem Qk3:∀(rs:List MR) (k:Nat) (r:MR),(rs.set k r).flatMap MR.cells=(rs.flatMap MR.cells).set k (.slice r.a r.ts.length r.cap)
 | [],k,r=>by simp
 |t :: l,0,r=>by simp[MR.cells]
 |t :: l,k+1,r=>by
  have b:=Qk3 l k r;rw[List.set_cons_succ,List.flatMap_cons,b,List.flatMap_cons];simp[MR.cells]
def MR.none:MR:=⟨.none,0,[]⟩
theorem Qul(n:Nat):madeCells (Value.cells (.slice .none 0 0)) n=((List.replicate n MR.none).flatMap MR.cells).toArray:=by
 have e:Value.cells (.slice .none 0 0)=#[.slice .none 0 0]:=by rfl
 rw[e];apply Array.ext';rw[toList_madeCells_one]
 induction n with
 |zero=>rfl
 |succ n a=>
  simp only[List.toList_toArray] at a ⊢;rw[List.replicate_succ,List.replicate_succ,List.flatMap_cons,<-a];rfl
theorem Qdd:(prog.info? 93).map (fun i=>(i.zero,i.size,i.bytes))=some (some (.slice .none 0 0),1,24):=by kernel_rfl
theorem Qk4(n:Nat)(e:n<=1048576)(w:Vz):(Instr.makeSlice 89 (.int .i64 n) (.int .i64 n)).run prog w=.ok (.slice (some ⟨w.heap.size,0,.none⟩) n n) (w.alloc (.cells ((List.replicate n MR.none).flatMap MR.cells).toArray 93)):=by
 obtain⟨i,a,h⟩:=Option.map_eq_some_iff.1 Qdd;simp only[Prod.mk.injEq] at h;obtain⟨b,c,d⟩:=h;have:=run_make w 89 93 i _ underlying89 a b .i64 .i64 n n (by omega) (by omega) (by rw[d];omega) (by omega);rw[Int.toNat_natCast,c,Nat.mul_one,Qul] at this;exact this
end Go.Proofs.YtppkmifkpjkgpaaGreatDoor
