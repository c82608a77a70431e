import Derived.Test.YtppkmifkpjkgpaaGreatDoorE10RatCmp
namespace Go.Proofs.YtppkmifkpjkgpaaGreatDoor
open Go.RowKit
open Go.Proofs.Tryz
set_option linter.unusedSimpArgs false
set_option linter.unusedVariables false
set_option maxHeartbeats 8000000
set_option maxRecDepth 1000000
theorem SB.arow{α:Type}{c:α->List Value}{w:Vz}{g cap:Nat}{t:Vr}{C:Vw}{a:List α}(h:SB w g t C)(b:C.toList=a.flatMap c)(hl:a.length<=cap):ARow c w (some ⟨g,0,none⟩) cap a:=by
 refine⟨hl,⟨fun j u d=>⟨g,0,rfl,h.lt,?_⟩⟩⟩;rw[Nat.zero_add,h.cell j,<-Array.getElem?_toList,b];exact d
abbrev tx0:ByteArray:=⟨#[48]⟩
abbrev tx1:ByteArray:=⟨#[49]⟩
def cornerJ:List S2:=[⟨tx0,tx0⟩,⟨tx1,tx0⟩,⟨tx0,tx1⟩]
def cornerBar(a b:Int):B6:=⟨a,b,tx1,⟨#[]⟩,⟨#[45,49]⟩,⟨#[50]⟩⟩
def cornerB:List B6:=[cornerBar 0 1,cornerBar 1 2,cornerBar 2 0]
def cornerH:List H3:=[⟨0,1,⟨#[]⟩⟩,⟨0,2,⟨#[]⟩⟩,⟨1,2,⟨#[]⟩⟩]
theorem Tryz.barInfo:(prog.info? 80).map (·.size)=some 6:=by kernel_rfl
theorem Qfa(a b:Int)(w:Vz):Calls prog 61 #[.int .i64 a,.int .i64 b] w fun e w'=>e=.returned (.agg #[.int .i64 a,.int .i64 b,.string ⟨#[49]⟩,.string ⟨#[]⟩,.string ⟨#[45,49]⟩,.string ⟨#[50]⟩])/\Below w.heap.size w w':=by
 go_enter func61,ntmps61;go_wp2;refine bodyPost_ret (results_cell_row rfl _ _ w.heap.size 80 #[.int .i64 a,.int .i64 b,.string ⟨#[49]⟩,.string ⟨#[]⟩,.string ⟨#[45,49]⟩,.string ⟨#[50]⟩] (0,0) _ rfl (SB.new w _ _) underlying80 rfl Tryz.barInfo) rfl ?_;exact⟨rfl,bR.alloc lZ _⟩
theorem Qfb(w:Vz):Calls prog 28 #[] w fun e w'=>∃h f z,e=.returned (.agg #[.slice (some ⟨h,0,none⟩) 3 3,.slice (some ⟨f,0,none⟩) 3 3,.slice (some ⟨z,0,none⟩) 3 3])/\FrRow w' (some ⟨h,0,none⟩) (some ⟨f,0,none⟩) (some ⟨z,0,none⟩) 3 3 3 cornerJ cornerB cornerH/\Below w.heap.size w w':=by
 go_enter func28,ntmps28;go_wp2_with fail;obtain⟨W,r⟩:=nm (w.alloc (.cells #[.slice none 0 0,.slice none 0 0,.slice none 0 0] 26));have a:O (PBag w W [fun v=>SB v w.heap.size 26 #[.slice none 0 0,.slice none 0 0,.slice none 0 0]]):=Hi (by rw[<-r];exact((PBag.start w).below (bR.alloc lZ _)).put (P:=fun v=>SB v w.heap.size 26 #[.slice none 0 0,.slice none 0 0,.slice none 0 0]) (SB.new w _ _) (SB.stay _ _ _));rw[r];clear r;go_fit (Qdl ⟨#[48]⟩ ⟨#[48]⟩ W);rintro e B ⟨rfl,d⟩;have c:=Hi (a.o.below d);clear a d;have a:=c;clear c;go_wp2_with fail;go_fit (Qdl ⟨#[49]⟩ ⟨#[48]⟩ B);rintro e C ⟨rfl,d⟩;have c:=Hi (a.o.below d);clear a d;have a:=c;clear c;go_wp2_with fail;go_fit (Qdl ⟨#[48]⟩ ⟨#[49]⟩ C);rintro e s ⟨rfl,d⟩;have c:=Hi (a.o.below d);clear a d;have a:=c;clear c;obtain⟨h,j⟩:=nm s.heap.size
 obtain⟨A,hv3⟩:=nm (s.alloc (.cells #[.string ⟨#[48]⟩,.string ⟨#[48]⟩,.string ⟨#[49]⟩,.string ⟨#[48]⟩,.string ⟨#[48]⟩,.string ⟨#[49]⟩] 56));have c:=Hi ((a.o.below (w':=A) (by rw[<-hv3];exact(Below.refl _ _).alloc lZ _)).put (P:=fun v=>SB v h 56 #[.string ⟨#[48]⟩,.string ⟨#[48]⟩,.string ⟨#[49]⟩,.string ⟨#[48]⟩,.string ⟨#[48]⟩,.string ⟨#[49]⟩]) (by rw[<-hv3,<-j];exact SB.new s _ _) (SB.stay _ _ _));have k:w.heap.size≠h:=by have:=a.o.base.size;have:=(a.o.get (fun v=>SB v w.heap.size 26 #[.slice none 0 0,.slice none 0 0,.slice none 0 0]) (List.Mem.head _)).lt;omega
 clear a;have a:=c;obtain⟨t,u⟩:=Ia hv3 j;clear c hv3 j;go_wp2_with fail;rw[t.o,u.o];go_fit (Qfa 0 1 A);rintro e D ⟨rfl,d⟩;have c:=Hi (a.o.below d);clear a d;have a:=c;clear c;go_wp2_with fail;go_fit (Qfa 1 2 D);rintro e E ⟨rfl,d⟩;have c:=Hi (a.o.below d);clear a d;have a:=c;clear c;go_wp2_with fail;go_fit (Qfa 2 0 E);rintro e n ⟨rfl,d⟩;have c:=Hi (a.o.below d);clear a d;have a:=c;clear c;obtain⟨f,i⟩:=nm n.heap.size
 obtain⟨q,g⟩:=nm ((n.alloc (.cells #[.int .i64 0,.int .i64 1,.string ⟨#[49]⟩,.string ⟨#[]⟩,.string ⟨#[45,49]⟩,.string ⟨#[50]⟩,.int .i64 1,.int .i64 2,.string ⟨#[49]⟩,.string ⟨#[]⟩,.string ⟨#[45,49]⟩,.string ⟨#[50]⟩,.int .i64 2,.int .i64 0,.string ⟨#[49]⟩,.string ⟨#[]⟩,.string ⟨#[45,49]⟩,.string ⟨#[50]⟩] 80)).alloc (.cells #[.int .i64 0,.int .i64 1,.string ⟨#[]⟩,.int .i64 0,.int .i64 2,.string ⟨#[]⟩,.int .i64 1,.int .i64 2,.string ⟨#[]⟩] 83))
 have c:=Hi (((a.o.below (w':=q) (by rw[<-g];exact Below.new2 n _ _)).put (P:=fun v=>SB v f 80 #[.int .i64 0,.int .i64 1,.string ⟨#[49]⟩,.string ⟨#[]⟩,.string ⟨#[45,49]⟩,.string ⟨#[50]⟩,.int .i64 1,.int .i64 2,.string ⟨#[49]⟩,.string ⟨#[]⟩,.string ⟨#[45,49]⟩,.string ⟨#[50]⟩,.int .i64 2,.int .i64 0,.string ⟨#[49]⟩,.string ⟨#[]⟩,.string ⟨#[45,49]⟩,.string ⟨#[50]⟩]) (by rw[<-g,<-i];exact(SB.new n _ _).alloc _) (SB.stay _ _ _)).put (P:=fun v=>SB v (f+1) 83 #[.int .i64 0,.int .i64 1,.string ⟨#[]⟩,.int .i64 0,.int .i64 2,.string ⟨#[]⟩,.int .i64 1,.int .i64 2,.string ⟨#[]⟩]) (by rw[<-g,<-i];exact SB.new2 n _ _ _ _) (SB.stay _ _ _));have b:=a.o.get (fun v=>SB v w.heap.size 26 #[.slice none 0 0,.slice none 0 0,.slice none 0 0]) (by
  (repeat(first|exact mH|apply mT))
  skip)
 have l:w.heap.size≠f:=by have:=b.lt;omega
 have m:w.heap.size≠f+1:=by have:=b.lt;omega
 clear a b;have a:=c;have b:=a.o.get (fun v=>SB v w.heap.size 26 #[.slice none 0 0,.slice none 0 0,.slice none 0 0]) (by
  (repeat(first|exact mH|apply mT))
  skip)
 obtain⟨F,G,H,-⟩:=zc b;have f0:=b.free 0;have f1:=b.free 1;have f2:=b.free 2;rw[<-g] at F G H f0 f1 f2;obtain⟨p,x,y⟩:=Ib b g i;clear c g i b;go_wp2;rw[x.o,y.o];have I:=a.o.get (fun v=>SB v h 56 #[.string ⟨#[48]⟩,.string ⟨#[48]⟩,.string ⟨#[49]⟩,.string ⟨#[48]⟩,.string ⟨#[48]⟩,.string ⟨#[49]⟩]) (by
  (repeat(first|exact mH|apply mT))
  skip)
 have J:=a.o.get (fun v=>SB v f 80 #[.int .i64 0,.int .i64 1,.string ⟨#[49]⟩,.string ⟨#[]⟩,.string ⟨#[45,49]⟩,.string ⟨#[50]⟩,.int .i64 1,.int .i64 2,.string ⟨#[49]⟩,.string ⟨#[]⟩,.string ⟨#[45,49]⟩,.string ⟨#[50]⟩,.int .i64 2,.int .i64 0,.string ⟨#[49]⟩,.string ⟨#[]⟩,.string ⟨#[45,49]⟩,.string ⟨#[50]⟩]) (by
  (repeat(first|exact mH|apply mT))
  skip)
 have K:=a.o.get (fun v=>SB v (f+1) 83 #[.int .i64 0,.int .i64 1,.string ⟨#[]⟩,.int .i64 0,.int .i64 2,.string ⟨#[]⟩,.int .i64 1,.int .i64 2,.string ⟨#[]⟩]) (by
  (repeat(first|exact mH|apply mT))
  skip)
 have L:ARow S2.cells q (some ⟨h,0,none⟩) 3 cornerJ:=I.arow rfl (by decide);have M:ARow B6.cells q (some ⟨f,0,none⟩) 3 cornerB:=J.arow rfl (by decide);have N:ARow H3.cells q (some ⟨f+1,0,none⟩) 3 cornerH:=K.arow rfl (by decide);refine bodyPost_ret (results_cell_row rfl _ _ w.heap.size 26 #[.slice (some ⟨h,0,none⟩) 3 3,.slice (some ⟨f,0,none⟩) 3 3,.slice (some ⟨f+1,0,none⟩) 3 3] (0,0) _ rfl (((p.o.set 0 _).set 1 _).set 2 _) underlying26 rfl Tryz.frameInfo) rfl ?_;exact⟨h,f,f+1,rfl,⟨((L.far k).far k).far k,((M.far l).far l).far l,((N.far m).far m).far m⟩,((a.o.base.setCell lZ _).setCell lZ _).setCell lZ _⟩
theorem Qdm(a b c:Vx)(c1 c2 c3 n m k:Nat)(w:Vz)(d:m<=24)(hk:k<=20):
 Calls prog 39 #[.agg #[.slice a n c1,.slice b m c2,.slice c k c3]] w fun e w'=>e=.returned (.int .i64 ((m:Int)+(k:Int)))/\Below w.heap.size w w':=by
 go_enter func39,ntmps39;go_wp2;go_ret;exact⟨rfl,bR.alloc lZ _⟩
theorem Qeu(a b c:Vx)(c1 c2 c3 n m k:Nat)(w:Vz)(d:n<=10):
 Calls prog 40 #[.agg #[.slice a n c1,.slice b m c2,.slice c k c3]] w fun e w'=>e=.returned (.int .i64 (2*(n:Int)))/\Below w.heap.size w w':=by
 go_enter func40,ntmps40;go_wp2;go_ret;exact⟨rfl,bR.alloc lZ _⟩
theorem Qdn(j:Nat)(w:Vz)(a:j<=10):Calls prog 80 #[.int .i64 j] w fun e w'=>e=.returned (.int .i64 (2*(j:Int)))/\w'=w:=by
 go_enter func80,ntmps80;go_wp2;go_ret;exact⟨rfl,rfl⟩
theorem Qdo(j:Nat)(w:Vz)(a:j<=10):Calls prog 81 #[.int .i64 j] w fun e w'=>e=.returned (.int .i64 (2*(j:Int)+1))/\w'=w:=by
 go_enter func81,ntmps81;go_wp2;go_ret;exact⟨rfl,rfl⟩
theorem Qwe(j:Nat)(a:Int)(q:Vs)(w:Vz)(b:j<=10):Calls prog 83 #[.agg #[.int .i64 j,.int .i64 a,.string q]] w fun e w'=>e=.returned (.int .i64 (if a=1 then 2*(j:Int) else 2*(j:Int)+1))/\Below w.heap.size w w':=by
 have c:=Hi ((Below.refl w.heap.size w).alloc lZ (.cells #[.int .i64 j,.int .i64 a,.string q] 83));by_cases h:a=1
 .
  subst h;rw[if_pos rfl];go_enter func83,ntmps83;go_wp2_with fail;go_fit (Qdn j _ b);rintro e d ⟨rfl,rfl⟩;go_wp2;go_ret;exact⟨rfl,c.o⟩
 .
  rw[if_neg h];have f:(a == 1)=false:=by rw[beq_eq_false_iff_ne];exact h
  clear h;go_enter func83,ntmps83;go_wp2_with fail;go_fit (Qdo j _ b);rintro e d ⟨rfl,rfl⟩;go_wp2;go_ret;exact⟨rfl,c.o⟩
def FE.cells(t:FE):List Value:=[t.x,t.y,t.z]
structure QRow (w:Vz) (a:Vx) (cap:Nat) (ts:List FE):Prop where
 row:ARow FE.cells w a cap ts
 ts:∀t,t∈ ts->FracV w (.agg #[t.x,t.y,t.z]) t.q/\Fits t.q t.k/\0<t.k
theorem QRow.below{w w':Vz}{a:Vx}{cap:Nat}{b:List FE}(h:QRow w a cap b)(c:Bl w w'):QRow w' a cap b:=
 ⟨h.row.below c,fun t d=>⟨(h.ts t d).1.below c,(h.ts t d).2⟩⟩
theorem QRow.at{w:Vz}{a:Vx}{cap:Nat}{f:List FE}(h:QRow w a cap f){i:Nat}{e:FE}(g:f[i]?=some e):
 ∃b c,a=some ⟨b,c,none⟩/\b<w.heap.size/\w.cell? ⟨b,c+i*3,none⟩=some e.x/\w.cell? ⟨b,c+i*3+1,none⟩=some e.y/\w.cell? ⟨b,c+i*3+2,none⟩=some e.z:=by
 obtain⟨b,c,j,k,d⟩:=h.row.at (sz:=3) (fun _=>rfl) (by decide) g;exact⟨b,c,j,k,d 0 _ rfl,d 1 _ rfl,d 2 _ rfl⟩
theorem QRow.get{w:Vz}{a:Vx}{cap:Nat}{b:List FE}(h:QRow w a cap b){i:Nat}{e:FE}(c:b[i]?=some e):FracV w (.agg #[e.x,e.y,e.z]) e.q/\Fits e.q e.k/\0<e.k:=h.ts e (mO c)
def filledOf(ts:List FE):Nat:=ts.countP fun t=>!decide (t.q=0)
theorem Qva{a:List FE}{k:Nat}{e:FE}(h:a[k]?=some e):filledOf (a.take (k+1))=filledOf (a.take k)+if e.q=0 then 0 else 1:=by
 unfold filledOf;rw[List.take_add_one,h,List.countP_append];by_cases b:e.q=0<;>simp[b]
theorem Qlb(a:List FE):filledOf a<=a.length:=List.countP_le_length
theorem Qvb(a:Vx)(cap:Nat)(b:List FE)(w:Vz)(h:QRow w a cap b)(hl:b.length<=1000):
 Calls prog 159 #[.slice a b.length cap] w fun e w'=>e=.returned (.int .i64 (filledOf b:Nat))/\Below w.heap.size w w':=by
 have A:=Hi h;clear h;go_enter func159,ntmps159;go_wp2_with fail;go_loopw [3,8] (fun n i wr=>∃k:Nat,k<=b.length/\i=.int .i64 k/\n=.int .i64 (filledOf (b.take k):Nat)/\Below w.heap.size w wr) (fun _ i _=>b.length - (intOf i).toNat)
 case atStart=>exact⟨0,by omega,rfl,rfl,Below.refl _ _⟩
 case round=>
  obtain⟨k,hk,rfl,rfl,B⟩:=hrel;have j:=Hi B;clear B;by_cases s:k<b.length
  .
   obtain⟨f,r⟩:∃f,b[k]?=some f:=⟨b[k],gE s⟩;obtain⟨Q,G,rfl,H,d0,d1,d2⟩:=(A.o.below j.o).at r;obtain⟨t,_,_⟩:=(A.o.below j.o).get r;have c:=Hi (Qva r);have I:filledOf (b.take k)<=1000:=by
    have R:=Qlb (b.take k);have S:=List.length_take_le k b;omega
   obtain⟨C,D,E⟩:=t.one;obtain⟨m,F⟩:=nm (filledOf (b.take k));rw[F] at I c ⊢;have J:=Hi t;have T:((k:Int)<(b.length:Int)):=by omega
   obtain⟨V,u⟩:=nm (wr.alloc (.cells #[f.x,f.y,f.z] 141));have d:=Ua u;have K:=Hi u;have L:=Qao prog C;have M:=Qao prog D;have N:=Qao prog E;clear r t F u C D E;go_wp2_with fail;rw[K.o];go_fit (Qcd (J.o.below d.o));rintro e U ⟨rfl,l⟩;have p:=Hi (j.o.trans ((d.o.trans (l.mono d.o.size)).mono j.o.size));clear l d0 d1 d2 L M N;by_cases g:f.q=0
   .
    rw[decide_eq_true g];rw[if_pos g] at c;clear g;go_wp2;go_roundw
    case rel=>exact⟨k+1,by omega,by go_num,by rw[c.o];rfl,p.o⟩
    case measure=>simp[intOf];omega
   .
    rw[decide_eq_false g];rw[if_neg g] at c;clear g;go_wp2;go_roundw
    case rel=>exact⟨k+1,by omega,by go_num,by rw[c.o];go_num,p.o⟩
    case measure=>simp[intOf];omega
  .
   have v:k=b.length:=by omega
   subst v;have P:O (filledOf (b.take b.length)=filledOf b):=Hi (by rw[List.take_length]);rw[P.o];go_wp2;go_ret;exact⟨rfl,j.o⟩
structure MR where
 a:Option Addr
 cap:Nat
 ts:List FE
def MR.cells(r:MR):List Value:=[.slice r.a r.ts.length r.cap]
def MR.q(r:MR)(c:Nat):Rat:=(r.ts.map (·.q)).getD c 0
theorem MR.q_at{r:MR}{c:Nat}{e:FE}(h:r.ts[c]?=some e):r.q c=e.q:=by
 unfold MR.q;simp[List.getD,h]
structure QMat (w:Vz) (a:Vx) (cap wide:Nat) (rs:List MR):Prop where
 row:ARow MR.cells w a cap rs
 rs:∀r,r∈ rs->QRow w r.a r.cap r.ts/\r.ts.length=wide
theorem QMat.below{w w':Vz}{a:Vx}{cap wide:Nat}{rs:List MR}(h:QMat w a cap wide rs)(b:Bl w w'):QMat w' a cap wide rs:=
 ⟨h.row.below b,fun t c=>⟨(h.rs t c).1.below b,(h.rs t c).2⟩⟩
theorem QMat.at{w:Vz}{a:Vx}{cap wide:Nat}{rs:List MR}(h:QMat w a cap wide rs){i:Nat}{r:MR}(d:rs[i]?=some r):
 ∃b c,a=some ⟨b,c,none⟩/\b<w.heap.size/\w.cell? ⟨b,c+i,none⟩=some (.slice r.a r.ts.length r.cap):=by
 obtain⟨b,c,e,f,g⟩:=h.row.at (sz:=1) (fun _=>rfl) (by decide) d;refine⟨b,c,e,f,?_⟩;have:=g 0 _ rfl;rw[Nat.mul_one] at this;exact this
theorem QMat.get{w:Vz}{a:Vx}{cap wide:Nat}{rs:List MR}(h:QMat w a cap wide rs){i:Nat}{r:MR}(b:rs[i]?=some r):QRow w r.a r.cap r.ts/\r.ts.length=wide:=h.rs r (mO b)
def Picks(rs:List MR)(c:Nat)(v:Int):Prop:=
 (v= -1/\∀r∈ rs,r.q c=0)∨∃j r,rs[j]?=some r/\v=(j:Nat)/\r.q c≠0
theorem Picks.skip{rs:List MR}{c k:Nat}{v:Int}{r:MR}(h:Picks (rs.take k) c v)(e:rs[k]?=some r)(f:r.q c=0):Picks (rs.take (k+1)) c v:=by
 rw[List.take_add_one,e];rcases h with ⟨b,d⟩|⟨j,s,b,d,g⟩
 .
  refine .inl ⟨b,fun x a=>?_⟩;rcases List.mem_append.1 a with a|a
  . exact d x a
  . obtain rfl:x=r:=by simpa using a
    exact f
 . exact .inr ⟨j,s,by rw[List.getElem?_append_left (gZ b).1];exact b,d,g⟩
theorem Picks.keep{rs:List MR}{c k j:Nat}{r:MR}(h:Picks (rs.take k) c (j:Nat))(d:rs[k]?=some r):Picks (rs.take (k+1)) c (j:Nat):=by
 rw[List.take_add_one,d];rcases h with ⟨a,b⟩|⟨i,s,a,b,e⟩
 . omega
 . exact .inr ⟨i,s,by rw[List.getElem?_append_left (gZ a).1];exact a,b,e⟩
theorem Picks.this{rs:List MR}{c k:Nat}{r:MR}(a:rs[k]?=some r)(b:r.q c≠0):Picks (rs.take (k+1)) c (k:Nat):=
 .inr ⟨k,r,by rw[List.getElem?_take_of_lt (Nat.lt_succ_self k)];exact a,rfl,b⟩
theorem Qvc(a:Vx)(cap wide c:Nat)(rs:List MR)(w:Vz)(h:QMat w a cap wide rs)(hl:rs.length<=1000)(hw:wide<=1000)(N:c<wide):
 Calls prog 125 #[.slice a rs.length cap,.int .i64 c] w fun e w'=>(∃v,e=.returned (.int .i64 v)/\Picks rs c v)/\Below w.heap.size w w':=by
 have P:=Hi h;clear h;go_enter func125,ntmps125;go_wp2_with fail;go_loopw [5,6,12] (fun u f i wr=>∃(k m:Nat) (v:Int),k<=rs.length/\i=.int .i64 k/\u=.int .i64 v/\f=.int .i64 m/\m<=1000/\Picks (rs.take k) c v/\Below w.heap.size w wr) (fun _ _ i _=>rs.length - (intOf i).toNat)
 case atStart=>exact⟨0,0,-1,by omega,rfl,rfl,rfl,by omega,.inl ⟨rfl,fun r s=>by simp at s⟩,Below.refl _ _⟩
 case round=>
  obtain⟨k,m,v,hk,rfl,rfl,rfl,Q,R,S⟩:=hrel;obtain⟨x,A⟩:=Ia S R;clear S R;by_cases G:k<rs.length
  .
   obtain⟨r,s⟩:∃r,rs[k]?=some r:=⟨rs[k],gE G⟩;obtain⟨fb,U,rfl,V,d⟩:=(P.o.below x.o).at s;obtain⟨B,H⟩:=(P.o.below x.o).get s;obtain⟨e,C⟩:∃e,r.ts[c]?=some e:=⟨r.ts[c],gE (by omega)⟩;obtain⟨rb,ro,b,W,d0,d1,d2⟩:=B.at C;obtain⟨D,_,_⟩:=B.get C;obtain⟨X,E,T,Y⟩:=Ic B s (MR.q_at C) D;have q1:((k:Int)<(rs.length:Int)):=by omega
   have q2:((c:Int)<(r.ts.length:Int)):=by omega
   rw[b] at d;have I:=Hi b;clear s B C D b;go_wp2_with fail;go_fit (Qcd Y.o);rintro Z w4 ⟨rfl,l⟩;obtain⟨n,J⟩:=Ia (x.o.trans (l.mono x.o.size)) (X.o.below l);clear l d0 d1 d2 d;by_cases t:e.q=0
   .
    rw[decide_eq_true t];have F:O (r.q c=0):=Hi (T.o.trans t);clear t;go_wp2;go_roundw
    case measure=>simp[intOf];omega
    case rel=>exact⟨k+1,m,v,by omega,by go_num,rfl,rfl,Q,A.o.skip E.o F.o,n.o⟩
   .
    rw[decide_eq_false t];have F:O (r.q c≠0):=Hi (fun N=>t (T.o.symm.trans N));have hf:=Qlb r.ts;clear t;go_wp2_with fail;have K:=Hi (Qvb r.a r.cap r.ts w4 J.o (by omega));rw[I.o,H] at K;obtain⟨g,y⟩:=nm (filledOf r.ts);rw[y] at K hf;clear y;go_fit K.o;rintro Z w5 ⟨rfl,z⟩;have p:=Hi (n.o.trans (z.mono n.o.size));clear z;have y:g<=1000:=by omega
    by_cases D:v<0
    .
     clear A;go_wp2;go_roundw
     case measure=>simp[intOf];omega
     case rel=>exact⟨k+1,g,k,by omega,by go_num,rfl,rfl,y,Picks.this E.o F.o,p.o⟩
    .
     obtain⟨j,rfl⟩:∃j:Nat,v=j:=⟨v.toNat,by omega⟩;clear D;by_cases aa:(g:Int)<(m:Int)
     .
      go_wp2;go_roundw
      case measure=>simp[intOf];omega
      case rel=>exact⟨k+1,g,k,by omega,by go_num,rfl,rfl,y,Picks.this E.o F.o,p.o⟩
     .
      go_wp2;go_roundw
      case measure=>simp[intOf];omega
      case rel=>exact⟨k+1,m,j,by omega,by go_num,rfl,rfl,Q,A.o.keep E.o,p.o⟩
  .
   have L:k=rs.length:=by omega
   subst L;have M:O (Picks rs c v):=Hi (by have:=A.o;rw[List.take_length] at this;exact this);go_wp2;go_ret;exact⟨⟨v,rfl,M.o⟩,x.o⟩
def FE.zero:FE:=⟨.bool false,.slice none 0 0,.slice none 0 0,0,1⟩
structure QBlk (w:Vz) (g:Nat) (ts:List FE):Prop where
 blk:SB w g 141 (ts.flatMap FE.cells).toArray
 ts:∀t,t∈ ts->FracV w (.agg #[t.x,t.y,t.z]) t.q/\Fits t.q t.k/\0<t.k
theorem QBlk.row{w:Vz}{g:Nat}{a:List FE}(h:QBlk w g a):QRow w (some ⟨g,0,none⟩) a.length a:=⟨h.blk.arow rfl lZ,h.ts⟩
theorem QBlk.below{w w':Vz}{g:Nat}{a:List FE}(h:QBlk w g a)(b:Bl w w'):QBlk w' g a:=⟨h.blk.below b h.blk.lt,fun t c=>⟨(h.ts t c).1.below b,(h.ts t c).2⟩⟩
theorem QBlk.no64{w:Vz}{g:Nat}{b:List FE}(h:QBlk w g b):NoU64 (b.flatMap FE.cells).toArray:=by
 refine Qih fun v a n=>?_
 obtain⟨t,c,a⟩:=List.mem_flatMap.1 a;obtain⟨d,e,f⟩:=(h.ts t c).1.no64 n;simp[FE.cells] at a;rcases a with rfl|rfl|rfl
 . exact d
 . exact e
 . exact f
theorem Qlc:∀(a:List FE) (k:Nat) (e:FE),k<a.length->(a.set k e).flatMap FE.cells=(((a.flatMap FE.cells).set (k*3) e.x).set (k*3+1) e.y).set (k*3+2) e.z
 | [],k,e,h=>by simp at h
 |t :: l,0,e,_=>by simp[FE.cells]
 |t :: l,k+1,e,h=>by
  have b:=Qlc l k e (by simpa using h);rw[List.set_cons_succ,List.flatMap_cons,b,List.flatMap_cons];simp only[FE.cells,List.cons_append,List.nil_append];rw[show (k+1)*3=k*3+1+1+1 by omega];simp only[List.set_cons_succ,Nat.add_assoc]
theorem QBlk.set{w:Vz}{g:Nat}{a:List FE}(h:QBlk w g a){k:Nat}{e:FE}(hk:k<a.length)(c:FracV w (.agg #[e.x,e.y,e.z]) e.q/\Fits e.q e.k/\0<e.k):
 QBlk (((w.setCell ⟨g,k*3,none⟩ e.x).setCell ⟨g,k*3+1,none⟩ e.y).setCell ⟨g,k*3+2,none⟩ e.z) g (a.set k e):=by
 have d:Only g w (((w.setCell ⟨g,k*3,none⟩ e.x).setCell ⟨g,k*3+1,none⟩ e.y).setCell ⟨g,k*3+2,none⟩ e.z):=(((Only.refl g w).setCell _ _).setCell _ _).setCell _ _;refine⟨?_,fun t b=>?_⟩
 .
  have:=((h.blk.set (k*3) e.x).set (k*3+1) e.y).set (k*3+2) e.z;rw[Qlc a k e hk]
  simpa using this
 .
  rcases List.mem_or_eq_of_mem_set b with b|rfl
  . exact⟨(h.ts t b).1.only d h.blk h.no64,(h.ts t b).2⟩
  . exact⟨c.1.only d h.blk h.no64,c.2⟩
theorem QBlk.new(w:Vz)(n:Nat)(C:Vw)(hC:C=((List.replicate n FE.zero).flatMap FE.cells).toArray):QBlk (w.alloc (.cells C 141)) w.heap.size (List.replicate n FE.zero):=by
 subst hC;refine⟨SB.new _ _ _,fun t a=>?_⟩;obtain⟨_,rfl⟩:=List.mem_replicate.1 a;exact⟨FracV.zero _,Fits.zero,by decide⟩
theorem Qvd(n:Nat):madeCells (Value.cells (.agg #[.bool false,.slice none 0 0,.slice none 0 0])) (n*3)=((List.replicate n FE.zero).flatMap FE.cells).toArray:=by
 apply Array.ext';apply List.ext_getElem?;intro i;by_cases d:i<n*3
 .
  have b:(List.replicate n FE.zero)[i / 3]?=some FE.zero:=by rw[List.getElem?_replicate,if_pos (by omega)]
  have a:i % 3=0∨i % 3=1∨i % 3=2:=by omega
  have e:Value.cells (.agg #[.bool false,.slice none 0 0,.slice none 0 0])=#[.bool false,.slice none 0 0,.slice none 0 0]:=by rfl
  have f:i / 3*3+i % 3=i:=by omega
  have g:(madeCells (Value.cells (.agg #[.bool false,.slice none 0 0,.slice none 0 0])) (n*3)).toList[i]?=some ((#[Value.bool false,.slice none 0 0,.slice none 0 0]:Array Value)[i % 3]!):=by
   rw[e];simp[madeCells,d]
  rw[g];have c:∀u,(FE.cells FE.zero)[i % 3]?=some u->((List.replicate n FE.zero).flatMap FE.cells)[i]?=some u:=fun u h=>by
   have:=Qcb (sz:=3) (fun _=>rfl) _ _ _ _ _ b h;rw[f] at this;exact this
  simp only[List.toList_toArray];rcases a with a|a|a
  all_goals
   rw[a] at c ⊢;exact(c _ rfl).symm
 .
  have b:((List.replicate n FE.zero).flatMap FE.cells).length=n*3:=by rw[Qa9 (sz:=3) (fun _=>rfl)];simp
  have j:=size_madeCells (Value.cells (.agg #[.bool false,.slice none 0 0,.slice none 0 0])) (n*3);rw[List.getElem?_eq_none (by rw[Array.length_toList,j];omega),List.getElem?_eq_none (by simp only[List.toList_toArray];rw[b];omega)]
theorem Qer:(prog.info? 141).map (fun i=>(i.zero,i.size,i.bytes))=some (some (.agg #[.bool false,.slice none 0 0,.slice none 0 0]),3,56):=by kernel_rfl
theorem Qcu(n:Nat)(d:n<=1048576)(w:Vz):(Instr.makeSlice 93 (.int .i64 n) (.int .i64 n)).run prog w=.ok (.slice (some ⟨w.heap.size,0,none⟩) n n) (w.alloc (.cells ((List.replicate n FE.zero).flatMap FE.cells).toArray 141)):=by
 obtain⟨i,a,h⟩:=Option.map_eq_some_iff.1 Qer;simp only[Prod.mk.injEq] at h;obtain⟨b,hs,c⟩:=h;have:=run_make w 93 141 i _ underlying93 a b .i64 .i64 n n (by omega) (by omega) (by rw[c];omega) (by omega);rw[Int.toNat_natCast,hs,Qvd] at this;exact this
def Made(f:Nat->Rat->Rat)(B:Nat)(ts us:List FE)(k:Nat):Prop:=
 us.length=ts.length/\∀i e,i<k->ts[i]?=some e->∃u,us[i]?=some u/\u.q=f i e.q/\u.k<=B
theorem Made.start(f:Nat->Rat->Rat)(B:Nat)(a:List FE):Made f B a (List.replicate a.length FE.zero) 0:=⟨by simp,fun i e b=>by omega⟩
theorem Made.step{f:Nat->Rat->Rat}{B:Nat}{a us:List FE}{k:Nat}{e u:FE}(h:Made f B a us k)(c:a[k]?=some e)(g:u.q=f k e.q)(hB:u.k<=B):Made f B a (us.set k u) (k+1):=by
 have hk:=(gZ c).1;refine⟨by rw[List.length_set];exact h.1,fun i x n d=>?_⟩;rcases Nat.lt_or_ge i k with b|j
 . obtain⟨y,l,m⟩:=h.2 i x b d
   exact⟨y,by rw[List.getElem?_set_ne (by omega)];exact l,m⟩
 .
  obtain rfl:i=k:=by omega
  obtain rfl:=Option.some.inj (c.symm.trans d);exact⟨u,by rw[List.getElem?_set_self (by rw[h.1];exact hk)],g,hB⟩
theorem Qve(a:Vx)(cap B j:Nat)(b:List FE)(A C D:Value)(q:Rat)(w:Vz)(h:QRow w a cap b)(hl:b.length<=1000)(hv:FracV w (.agg #[A,C,D]) q)(hq:Fits q j)(hj:0<j)(hB:∀t∈ b,t.k+j<=B)(aq:B<68719476000):
 Calls prog 136 #[.slice a b.length cap,.agg #[A,C,D]] w fun e w'=>(∃g us,e=.returned (.slice (some ⟨g,0,none⟩) b.length b.length)/\w.heap.size<=g/\QBlk w' g us/\Made (fun _ x=>x / q) B b us b.length)/\Below w.heap.size w w':=by
 obtain⟨U,HV,V,X⟩:=Ic h hv hq hB;have G:=fun w=>Qcu b.length (by omega) w
 obtain⟨MC,l⟩:=nm (((List.replicate b.length FE.zero).flatMap FE.cells).toArray);rw[l] at G;have Y:=Hi l.symm;clear h hv hq hB l;go_enter func136,ntmps136;go_wp2_with fail;clear G;obtain⟨g,Z⟩:=nm (w.heap.size+1);have m:w.heap.size<g:=by omega
 obtain⟨W,H⟩:=nm ((w.alloc (.cells #[A,C,D] 141)).alloc (.cells MC 141));have aa:=Ub H;have ab:=Ud H;have ad:O (QBlk W g (List.replicate b.length FE.zero)):=Hi (by rw[<-H,<-Z];have:=QBlk.new (w.alloc (.cells #[A,C,D] 141)) b.length MC Y.o;simpa using this)
 try rw[H]
 try rw[Z]
 clear H Z;go_loopw [12] (fun i wr=>∃(k:Nat) (us:List FE),k<=b.length/\i=.int .i64 k/\Made (fun _ x=>x / q) B b us k/\QBlk wr g us/\SB wr w.heap.size 141 #[A,C,D]/\Below w.heap.size w wr) (fun i _=>b.length - (intOf i).toNat)
 case atStart=>exact⟨0,_,by omega,rfl,Made.start _ _ _,ad.o,ab.o,aa.o⟩
 case round=>
  obtain⟨k,us,hk,rfl,hm,n,hs,hb⟩:=hrel;obtain⟨E,HM,HQ,HS⟩:=Ic hb hm n hs;have ar:=hm.1;have au:=n.blk.lt;clear hb hm n hs;by_cases ae:k<b.length
  .
   obtain⟨e,F⟩:∃e,b[k]?=some e:=⟨b[k],gE ae⟩;obtain⟨T,r,rfl,av,_⟩:=U.o.at F;obtain⟨aw,ao,af,ag,d0,d1,d2⟩:=(U.o.below E.o).at F;cases af;have n1:g≠T:=by omega
   have n2:g≠w.heap.size:=by omega
   obtain⟨hx,I,J⟩:=(U.o.below E.o).get F;have ah:=X.o e (mO F);obtain⟨y0,K⟩:∃y0,us[k]?=some y0:=⟨us[k],gE (by omega)⟩;obtain⟨HE,HX,s,HY⟩:=Ic F hx I (HV.o.below E.o);obtain⟨k0,k1,k2,-⟩:=zc HS.o;have q1:((k:Int)<(b.length:Int)):=by omega
   obtain⟨ai,D0,D1,D2⟩:=Ic K d0 d1 d2;clear F hx I K;go_wp2_with fail;go_region_held3 (fun v=>v.cell? ⟨T,r+k*3,none⟩=some e.x/\v.cell? ⟨T,r+k*3+1,none⟩=some e.y/\v.cell? ⟨T,r+k*3+2,none⟩=some e.z/\v.cell? ⟨w.heap.size,0,none⟩=some A/\v.cell? ⟨w.heap.size,1,none⟩=some C/\v.cell? ⟨w.heap.size,2,none⟩=some D) ((first|(simp [*];done)|go_keep)) (first
    |(
     go_at_call_of 129 e.x;apply cM
     first
      |exact Qc2 HX.o HY.o s.o V.o (by omega)
      |exact Qc2 (HX.o.below bR.drew) (HY.o.below bR.drew) s.o V.o (by omega)
     rintro e' w5 ⟨⟨v5,rfl,f⟩,u⟩;obtain⟨L,M,N,c5,P,Q,R,rfl,f⟩:=f
     first
      |have c:O (Bl wr w5):=Hi u
      |have c:O (Bl wr w5):=Hi (bR.drew.trans u)
     have aj:O (FracV w5 (.agg #[.bool L,.slice M N c5,.slice P Q R]) (e.q / q)):=Hi ⟨L,M,N,c5,P,Q,R,rfl,f⟩;clear f u;have d:=Hi (HQ.o.below c.o);obtain⟨v0,v1,v2⟩:=Jb c.o ag D0.o D1.o D2.o;have S:=Hi (HS.o.below c.o HS.o.lt);obtain⟨u0,u1,u2,-⟩:=zc S.o;have f0:=d.o.blk.free (k*3);have f1:=d.o.blk.free (k*3+1);have f2:=d.o.blk.free (k*3+2);obtain⟨gb,ap,ak,_,t0,t1,t2⟩:=d.o.row.at ai.o;cases ak;simp only[Nat.zero_add] at t0 t1 t2
     skip))
   all_goals
    go_wp2_with fail;obtain⟨HN,al,am⟩:=Ib (d.o.set (k:=k) (e:=⟨.bool L,.slice M N c5,.slice P Q R,e.q / q,e.k+j⟩) (by omega) ⟨aj.o,s.o.div V.o J hj,Nat.lt_add_right j J⟩) (((S.o.other n2.symm (k*3) (.bool L)).other n2.symm (k*3+1) (.slice M N c5)).other n2.symm (k*3+2) (.slice P Q R)) ((((E.o.trans (c.o.mono E.o.size)).setCell (p:=⟨g,k*3,none⟩) (Nat.le_of_lt m) (.bool L)).setCell (p:=⟨g,k*3+1,none⟩) (Nat.le_of_lt m) (.slice M N c5)).setCell (p:=⟨g,k*3+2,none⟩) (Nat.le_of_lt m) (.slice P Q R));refine⟨⟨k+1,_,by omega,by go_num,HM.o.step HE.o rfl ah,HN.o,al.o,am.o⟩,?_⟩;simp[intOf];omega
  .
   have an:k=b.length:=by omega
   subst an;go_wp2;go_ret;exact⟨⟨g,us,rfl,by omega,HQ.o,HM.o⟩,E.o⟩
def qAt(ss:List FE)(i:Nat):Rat:=(ss.map (·.q)).getD i 0
theorem Qvf{a:List FE}{i:Nat}{e:FE}(h:a[i]?=some e):qAt a i=e.q:=by
 unfold qAt;simp[List.getD,h]
theorem Qg4(a a':Vx)(cap cap' B j:Nat)(c P:List FE)(Q R S:Value)(q:Rat)(w:Vz)(h:QRow w a cap c)(h':QRow w a' cap' P)(be:P.length=c.length)(hl:c.length<=1000)(hv:FracV w (.agg #[Q,R,S]) q)(hq:Fits q j)(hj:0<j)(hB:∀t∈ c,∀s∈ P,t.k+s.k+j+1<=B)(bf:B<68719476000):
 Calls prog 128 #[.slice a c.length cap,.slice a' c.length cap',.agg #[Q,R,S]] w fun e w'=>(∃g us,e=.returned (.slice (some ⟨g,0,none⟩) c.length c.length)/\w.heap.size<=g/\QBlk w' g us/\Made (fun i x=>x - qAt P i*q) B c us c.length)/\Below w.heap.size w w':=by
 obtain⟨HH,HG,HV,T,au⟩:=Id h h' hv hq hB;have ak:=fun w=>Qcu c.length (by omega) w
 obtain⟨MC,U⟩:=nm (((List.replicate c.length FE.zero).flatMap FE.cells).toArray);rw[U] at ak;have av:=Hi U.symm;clear h h' hv hq hB U;go_enter func128,ntmps128;go_wp2_with fail;clear ak;obtain⟨g,hg⟩:=nm (w.heap.size+1);have n:w.heap.size<g:=by omega
 obtain⟨W,hW⟩:=nm ((w.alloc (.cells #[Q,R,S] 141)).alloc (.cells MC 141));have aw:=Ub hW;have ax:=Ud hW;have ay:O (QBlk W g (List.replicate c.length FE.zero)):=Hi (by rw[<-hW,<-hg];have:=QBlk.new (w.alloc (.cells #[Q,R,S] 141)) c.length MC av.o;simpa using this)
 try rw[hW]
 try rw[hg]
 clear hW hg;go_loopw [14] (fun i wr=>∃(k:Nat) (us:List FE),k<=c.length/\i=.int .i64 k/\Made (fun i x=>x - qAt P i*q) B c us k/\QBlk wr g us/\SB wr w.heap.size 141 #[Q,R,S]/\Below w.heap.size w wr) (fun i _=>c.length - (intOf i).toNat)
 case atStart=>exact⟨0,_,by omega,rfl,Made.start _ _ _,ay.o,ax.o,aw.o⟩
 case round=>
  obtain⟨k,us,hk,rfl,hm,V,hs,hb⟩:=hrel;obtain⟨HB,HM,HQ,HS⟩:=Ic hb hm V hs;have bg:=hm.1;have bh:=V.blk.lt;clear hb hm V hs;by_cases az:k<c.length
  .
   obtain⟨e,he⟩:∃e,c[k]?=some e:=⟨c[k],gE az⟩;obtain⟨s,hs⟩:∃s,P[k]?=some s:=⟨P[k],gE (by omega)⟩;obtain⟨fb,X,rfl,F,D0,D1,D2⟩:=HH.o.at he;obtain⟨sb,u,rfl,A,E0,E1,E2⟩:=HG.o.at hs;obtain⟨hx,Y,a0⟩:=HH.o.get he;obtain⟨hy,al,G⟩:=HG.o.get hs;have bi:=au.o e (mO he) s (mO hs);obtain⟨y0,am⟩:∃y0,us[k]?=some y0:=⟨us[k],gE (by omega)⟩;have n1:g≠fb:=by omega
   have n2:g≠w.heap.size:=by omega
   have n3:g≠sb:=by omega
   obtain⟨HE,an,HX,H,HY,l,Z,aa,ab⟩:=Ih he (Qvf hs) hx Y hy al D0 D1 D2;obtain⟨ad,ae,af⟩:=Ib E0 E1 E2;obtain⟨o1,o2,o3⟩:=hx.one;have a1:=Qao prog o1;have a2:=Qao prog o2;have a3:=Qao prog o3;obtain⟨d0,d1,d2⟩:=Jb HB.o F D0 D1 D2;have q1:((k:Int)<(c.length:Int)):=by omega
   have f0:=HQ.o.blk.free (k*3);have f1:=HQ.o.blk.free (k*3+1);have f2:=HQ.o.blk.free (k*3+2);obtain⟨gb,ao,ag,_,t0,t1,t2⟩:=HQ.o.row.at am;cases ag;simp only[Nat.zero_add] at t0 t1 t2;obtain⟨W1,r⟩:=nm (((wr.setCell ⟨g,k*3,none⟩ e.x).setCell ⟨g,k*3+1,none⟩ e.y).setCell ⟨g,k*3+2,none⟩ e.z);have a4:O (QBlk W1 g (us.set k e)):=Hi (by rw[<-r];exact HQ.o.set (by omega) ⟨hx.below HB.o,Y,a0⟩);have ap:O (SB W1 w.heap.size 141 #[Q,R,S]):=Hi (by rw[<-r];exact((HS.o.other n2.symm _ _).other n2.symm _ _).other n2.symm _ _);have C:O (Bl w W1):=Hi (by rw[<-r];exact((HB.o.setCell (p:=⟨g,k*3,none⟩) (Nat.le_of_lt n) _).setCell (p:=⟨g,k*3+1,none⟩) (Nat.le_of_lt n) _).setCell (p:=⟨g,k*3+2,none⟩) (Nat.le_of_lt n) _);obtain⟨s0,s1⟩:=Ja C.o A E0 E1
   have s2:=ce C.o A E2;rw[<-r] at s0 s1 s2;have a7:=Hi r;clear he hs hx Y hy al am r o1 o2 o3 D0 D1 D2 E0 E1 E2;go_wp2_with fail;rw[a7.o];clear s0 s1 s2 d0 d1 d2 f0 f1 f2 t0 t1 t2 a1 a2 a3;go_fit (Qcd (HY.o.below C.o));rintro e' w4 ⟨rfl,I⟩;obtain⟨b,aq,J⟩:=Ib (C.o.trans (I.mono C.o.size)) (a4.o.below I) (ap.o.below I ap.o.lt);clear I;by_cases h0:s.q=0
   .
    rw[decide_eq_true h0];have HZ:O (e.q=e.q - qAt P k*q):=Hi (by rw[an.o,h0,Rat.zero_mul,Rat.sub_eq_add_neg,Rat.neg_zero,Rat.add_zero]);clear h0;go_wp2;go_roundw
    case rel=>exact⟨k+1,_,by omega,by go_num,HM.o.step HE.o HZ.o (by omega),aq.o,J.o,b.o⟩
    case measure=>simp[intOf];omega
   .
    rw[decide_eq_false h0];clear h0;go_wp2_with fail;obtain⟨x0,x1,x2⟩:=Jb b.o F Z.o aa.o ab.o;obtain⟨z0,z1,z2⟩:=Jb b.o A ad.o ae.o af.o;obtain⟨k0,k1,k2,-⟩:=zc J.o;have a8:k<(us.set k e).length:=by rw[List.length_set];omega
    go_region_held3 (fun v=>v.cell? ⟨fb,X+k*3,none⟩=some e.x/\v.cell? ⟨fb,X+k*3+1,none⟩=some e.y/\v.cell? ⟨fb,X+k*3+2,none⟩=some e.z/\v.cell? ⟨sb,u+k*3,none⟩=some s.x/\v.cell? ⟨sb,u+k*3+1,none⟩=some s.y/\v.cell? ⟨sb,u+k*3+2,none⟩=some s.z/\v.cell? ⟨w.heap.size,0,none⟩=some Q/\v.cell? ⟨w.heap.size,1,none⟩=some R/\v.cell? ⟨w.heap.size,2,none⟩=some S) ((first|(simp [*];done)|go_keep)) (first
     |(
      go_at_call 160;apply cM
      first
       |exact Qfp (HY.o.below b.o) (HV.o.below b.o) l.o T.o (by omega)
       |exact Qfp (HY.o.below b.o.drew) (HV.o.below b.o.drew) l.o T.o (by omega)
       |exact Qfp (HY.o.below b.o.drew.drew) (HV.o.below b.o.drew.drew) l.o T.o (by omega)
      rintro e5 E ⟨⟨v5,rfl,K⟩,L⟩;obtain⟨n5,a5,l5,c5,m5,o5,p5,rfl,K⟩:=K
      first
       |have d:O (Bl w4 E):=Hi L
       |have d:O (Bl w4 E):=Hi (bR.drew.trans L)
       |have d:O (Bl w4 E):=Hi (bR.drew.drew.trans L)
      have ah:O (FracV E (.agg #[.bool n5,.slice a5 l5 c5,.slice m5 o5 p5]) (s.q*q)):=Hi ⟨n5,a5,l5,c5,m5,o5,p5,rfl,K⟩;clear K L;obtain⟨m,a9,ai⟩:=Ib (b.o.trans (d.o.mono b.o.size)) (aq.o.below d.o) (J.o.below d.o J.o.lt);obtain⟨x0,x1,x2⟩:=Jb m.o F Z.o aa.o ab.o;obtain⟨z0,z1,z2⟩:=Jb m.o A ad.o ae.o af.o;obtain⟨k0,k1,k2,-⟩:=zc ai.o
      skip)
     |(
      go_at_call 101;apply cM
      first
       |exact Qbj (HX.o.below m.o) ah.o H.o (l.o.mul T.o G) (by omega)
       |exact Qbj (HX.o.below m.o.drew) (ah.o.below bR.drew) H.o (l.o.mul T.o G) (by omega)
       |exact Qbj (HX.o.below m.o.drew.drew) (ah.o.below bR.drew.drew) H.o (l.o.mul T.o G) (by omega)
      rintro e6 w6 ⟨⟨v6,rfl,M⟩,N⟩;obtain⟨n6,a6,l6,c6,m6,o6,p6,rfl,M⟩:=M
      first
       |have f:O (Bl E w6):=Hi N
       |have f:O (Bl E w6):=Hi (bR.drew.trans N)
       |have f:O (Bl E w6):=Hi (bR.drew.drew.trans N)
      have ba:O (FracV w6 (.agg #[.bool n6,.slice a6 l6 c6,.slice m6 o6 p6]) (e.q - s.q*q)):=Hi ⟨n6,a6,l6,c6,m6,o6,p6,rfl,M⟩;clear M N;obtain⟨aj,D,ar⟩:=Ib (m.o.trans (f.o.mono m.o.size)) (a9.o.below f.o) (ai.o.below f.o ai.o.lt);obtain⟨x0,x1,x2⟩:=Jb aj.o F Z.o aa.o ab.o;obtain⟨z0,z1,z2⟩:=Jb aj.o A ad.o ae.o af.o;obtain⟨k0,k1,k2,-⟩:=zc ar.o
      have f0:=D.o.blk.free (k*3);have f1:=D.o.blk.free (k*3+1);have f2:=D.o.blk.free (k*3+2);obtain⟨gb,ao,ag,_,t0,t1,t2⟩:=D.o.row.at (i:=k) (e:=e) (List.getElem?_set_self (by omega));cases ag;simp only[Nat.zero_add] at t0 t1 t2
      skip))
    all_goals
     go_wp2_with fail;obtain⟨HN,bb,bc⟩:=Ib (D.o.set (k:=k) (e:=⟨.bool n6,.slice a6 l6 c6,.slice m6 o6 p6,e.q - s.q*q,e.k+(s.k+j)+1⟩) a8 ⟨ba.o,H.o.sub (l.o.mul T.o G),Nat.succ_pos _⟩) (((ar.o.other n2.symm (k*3) (.bool n6)).other n2.symm (k*3+1) (.slice a6 l6 c6)).other n2.symm (k*3+2) (.slice m6 o6 p6)) (((aj.o.setCell (p:=⟨g,k*3,none⟩) (Nat.le_of_lt n) (.bool n6)).setCell (p:=⟨g,k*3+1,none⟩) (Nat.le_of_lt n) (.slice a6 l6 c6)).setCell (p:=⟨g,k*3+2,none⟩) (Nat.le_of_lt n) (.slice m6 o6 p6));rw[List.set_set] at HN;refine⟨⟨k+1,_,by omega,by go_num,HM.o.step HE.o (by rw[an.o]) (by show e.k+(s.k+j)+1<=B;omega),HN.o,bb.o,bc.o⟩,?_⟩;simp[intOf];omega
  .
   have bd:k=c.length:=by omega
   subst bd;go_wp2;go_ret;exact⟨⟨g,us,rfl,by omega,HQ.o,HM.o⟩,HB.o⟩
theorem mr_sl(rs:List MR):∀v∈ rs.flatMap MR.cells,∃a n c,v=Value.slice a n c:=by
 intro v b;obtain⟨r,_,b⟩:=List.mem_flatMap.1 b;exact⟨_,_,_,by simpa [MR.cells] using b⟩
theorem Qld:∀(rs:List MR) (k:Nat) (r:MR),(rs.set k r).flatMap MR.cells=(rs.flatMap MR.cells).set k (.slice r.a r.ts.length r.cap)
 | [],k,r=>by simp
 |t :: l,0,r=>by simp[MR.cells]
 |t :: l,k+1,r=>by
  have b:=Qld l k r;rw[List.set_cons_succ,List.flatMap_cons,b,List.flatMap_cons];simp[MR.cells]
def MR.none:MR:=⟨.none,0,[]⟩
theorem Qvg(n:Nat):madeCells (Value.cells (.slice .none 0 0)) n=((List.replicate n MR.none).flatMap MR.cells).toArray:=by
 have e:Value.cells (.slice .none 0 0)=#[.slice .none 0 0]:=by rfl
 rw[e];apply Array.ext';rw[toList_madeCells_one]
 induction n with
 |zero=>rfl
 |succ n a=>
  simp only[List.toList_toArray] at a ⊢;rw[List.replicate_succ,List.replicate_succ,List.flatMap_cons,<-a];rfl
theorem Qcv:(prog.info? 93).map (fun i=>(i.zero,i.size,i.bytes))=some (some (.slice .none 0 0),1,24):=by kernel_rfl
theorem Qle(n:Nat)(d:n<=1048576)(w:Vz):(Instr.makeSlice 89 (.int .i64 n) (.int .i64 n)).run prog w=.ok (.slice (some ⟨w.heap.size,0,.none⟩) n n) (w.alloc (.cells ((List.replicate n MR.none).flatMap MR.cells).toArray 93)):=by
 obtain⟨i,a,h⟩:=Option.map_eq_some_iff.1 Qcv;simp only[Prod.mk.injEq] at h;obtain⟨b,hs,c⟩:=h;have:=run_make w 89 93 i _ underlying89 a b .i64 .i64 n n (by omega) (by omega) (by rw[c];omega) (by omega);rw[Int.toNat_natCast,hs,Nat.mul_one,Qvg] at this;exact this
abbrev Vec:=Nat->Rat
def dot:Nat->Vec->Vec->Rat
 |0,_,_=>0
 |n+1,r,x=>dot n r x+r n*x n
theorem Qai:∀(W:Nat) (r x s y:Vec),(∀c,c<W->r c*x c=s c*y c)->dot W r x=dot W s y
 |0,_,_,_,_,_=>rfl
 |n+1,r,x,s,y,h=>by
  simp only[dot];rw[Qai n r x s y (fun c a=>h c (by omega)),h n (by omega)]
theorem Qbm:∀(W:Nat) (r x:Vec),(∀c,c<W->r c*x c=0)->dot W r x=0
 |0,_,_,_=>rfl
 |n+1,r,x,h=>by
  simp only[dot];rw[Qbm n r x (fun c a=>h c (by omega)),h n (by omega)];grind
theorem Qbn:∀(W:Nat) (r s x:Vec) (q:Rat),dot W (fun i=>r i - s i*q) x=dot W r x - q*dot W s x
 |0,_,_,_,_=>by simp only[dot];grind
 |n+1,r,s,x,q=>by
  simp only[dot];rw[Qbn n r s x q];grind
theorem Qc6:∀(W:Nat) (r x:Vec) (q:Rat),dot W (fun i=>r i / q) x=dot W r x / q
 |0,_,_,_=>by simp only[dot];grind
 |n+1,r,x,q=>by
  simp only[dot];rw[Qc6 n r x q];grind
theorem Qje:∀(W:Nat) (r x y:Vec),dot W r (fun i=>x i - y i)=dot W r x - dot W r y
 |0,_,_,_=>by simp only[dot];grind
 |n+1,r,x,y=>by
  simp only[dot];rw[Qje n r x y];grind
def upd(x:Vec)(h:Nat)(v:Rat):Vec:=fun c=>if c=h then v else x c
theorem Qan(x:Vec)(h:Nat)(v:Rat):upd x h v h=v:=if_pos rfl
theorem Qad(x:Vec){h c:Nat}(v:Rat)(a:c≠h):upd x h v c=x c:=if_neg a
theorem Qch:∀(W:Nat) (r x:Vec) (h:Nat) (v:Rat),h<W->dot W r (upd x h v)=dot W r x+r h*(v - x h)
 |0,_,_,_,_,hh=>by omega
 |n+1,r,x,h,v,hh=>by
  simp only[dot];by_cases e:h=n
  .
   subst e;rw[Qai h r (upd x h v) r x (fun c a=>by rw[Qad _ _ (by omega)]),Qan];grind
  . rw[Qch n r x h v (by omega),Qad _ _ (Ne.symm e)]
    grind
theorem Qbz(W:Nat)(r x:Vec)(h:Nat)(b:h<W)(d:∀c,c<W->c≠h->r c*x c=0):dot W r x=r h*x h:=by
 have a:=Qch W r (upd x h 0) h (x h) b;have f:upd (upd x h 0) h (x h)=x:=by
  funext c;by_cases e:c=h
  . subst e;rw[Qan]
  . rw[Qad _ _ e,Qad _ _ e]
 rw[f,Qbm W r (upd x h 0) (fun c g=>?_),Qan] at a
 . rw[a];grind
 .
  by_cases e:c=h
  . subst e;rw[Qan];grind
  . rw[Qad _ _ e];exact d c g e
def Null(W:Nat)(S:List Vec)(x:Vec):Prop:=∀r,r∈ S->dot W r x=0
theorem Null.cons{W:Nat}{r:Vec}{S:List Vec}{x:Vec}:Null W (r :: S) x↔dot W r x=0/\Null W S x:=by
 unfold Null;simp
theorem Null.app{W:Nat}{S T:List Vec}{x:Vec}:Null W (S++T) x↔Null W S x/\Null W T x:=by
 unfold Null;simp only[List.mem_append];exact⟨fun h=>⟨fun r a=>h r (.inl a),fun r a=>h r (.inr a)⟩,fun h r a=>a.elim (h.1 r) (h.2 r)⟩
def Ech:Nat->Nat->List Vec->List Nat->Prop
 |lo,hi,[],[]=>lo<=hi
 |lo,hi,r :: S,h :: hs=>lo<=h/\r h≠0/\(∀c,c<h->r c=0)/\Ech (h+1) hi S hs
 |_,_,_,_=>False
theorem Ech.le:∀{S:List Vec} {hs:Vy} {lo a:Nat},Ech lo a S hs->lo<=a
 | [],[],_,_,h=>h
 |r :: S,h :: hs,lo,a,⟨h1,_,_,h2⟩=>by have:=Ech.le h2;omega
 | [],_ :: _,_,_,h=>h.elim
 |r :: S,[],_,_,h=>h.elim
theorem Ech.len:∀{S:List Vec} {hs:Vy} {lo a:Nat},Ech lo a S hs->S.length=hs.length
 | [],[],_,_,h=>rfl
 |r :: S,h :: hs,lo,a,⟨_,_,_,h2⟩=>by have:=Ech.len h2;simp only[List.length_cons];omega
 | [],_ :: _,_,_,h=>h.elim
 |r :: S,[],_,_,h=>h.elim
theorem Ech.mono:∀{S:List Vec} {hs:Vy} {lo b a:Nat},Ech lo b S hs->b<=a->Ech lo a S hs
 | [],[],_,_,_,h,k=>Nat.le_trans h k
 |r :: S,h :: hs,lo,b,a,⟨h1,h2,h3,h4⟩,k=>⟨h1,h2,h3,h4.mono k⟩
 | [],_ :: _,_,_,_,h,_=>h.elim
 |r :: S,[],_,_,_,h,_=>h.elim
theorem Ech.head:∀{S:List Vec} {hs:Vy} {lo b:Nat},Ech lo b S hs->∀c,c∈ hs->lo<=c/\c<b
 | [],[],_,_,h,c,a=>by cases a
 |r :: S,h :: hs,lo,b,⟨h1,h2,h3,h4⟩,c,a=>by
  rcases List.mem_cons.1 a with rfl|a
  . have:=h4.le;omega
  . have:=h4.head c a;omega
 | [],_ :: _,_,_,h,_,_=>h.elim
 |r :: S,[],_,_,h,_,_=>h.elim
theorem Ech.zero:∀{S:List Vec} {hs:Vy} {lo b:Nat},Ech lo b S hs->∀r,r∈ S->∀c,c<lo->r c=0
 | [],[],_,_,h,r,a,_,_=>by cases a
 |s :: S,h :: hs,lo,b,⟨h1,h2,h3,h4⟩,r,a,c,hc=>by
  rcases List.mem_cons.1 a with rfl|a
  . exact h3 c (by omega)
  . exact h4.zero r a c (by omega)
 | [],_ :: _,_,_,h,_,_,_,_=>h.elim
 |r :: S,[],_,_,h,_,_,_,_=>h.elim
theorem Ech.snoc:∀{S:List Vec} {hs:Vy} {lo a c:Nat} {s:Vec},Ech lo a S hs->a<=c->s c≠0->(∀i,i<c->s i=0)->Ech lo (c+1) (S++ [s]) (hs++ [c])
 | [],[],lo,a,c,s,h,k,h1,h2=>⟨Nat.le_trans h k,h1,h2,Nat.le_refl _⟩
 |r :: S,h :: hs,lo,a,c,s,⟨h1,h2,h3,h4⟩,k,k1,k2=>⟨h1,h2,h3,h4.snoc k k1 k2⟩
 | [],_ :: _,_,_,_,_,h,_,_,_=>h.elim
 |r :: S,[],_,_,_,_,h,_,_,_=>h.elim
theorem Ech.solve(W:Nat)(f:Vec):∀{S:List Vec} {hs:Vy} {lo a:Nat},Ech lo a S hs->a<=W->∃x:Vec,(∀c,c ∉ hs->x c=f c)/\Null W S x
 | [],[],_,_,_,_=>⟨f,fun _ _=>rfl,fun r e=>by cases e⟩
 |r :: S,h :: hs,lo,a,⟨h1,h2,h3,h4⟩,hW=>by
  obtain⟨x,g,i⟩:=h4.solve W f hW;have d:h<W:=by have:=h4.le;omega
  refine⟨upd x h (x h - dot W r x / r h),fun c b=>?_,Null.cons.2 ⟨?_,fun s hs=>?_⟩⟩
  .
   simp only[List.mem_cons,not_or] at b;rw[Qad _ _ b.1];exact g c b.2
  . rw[Qch _ _ _ _ _ d]
    grind
  . rw[Qch _ _ _ _ _ d,i s hs,h4.zero s hs h (by omega)]
    grind
 | [],_ :: _,_,_,h,_=>h.elim
 |r :: S,[],_,_,h,_=>h.elim
theorem Ech.uniq(W:Nat)(z:Vec):∀{S:List Vec} {hs:Vy} {lo b:Nat},Ech lo b S hs->b<=W->Null W S z->(∀c,c<W->c ∉ hs->z c=0∨∀r,r∈ S->r c=0)->∀h,h∈ hs->z h=0
 | [],[],_,_,_,_,_,_,h,d=>by cases d
 |r :: S,h :: hs,lo,b,⟨h1,h2,h3,h4⟩,hW,hn,hz,k,hk=>by
  have d:h<W:=by have:=h4.le;omega
  obtain⟨a,f⟩:=Null.cons.1 hn;have m:=h4.uniq W z hW f (fun c g i=>by
   by_cases e:c=h
   . subst e
     exact .inr fun s hs=>h4.zero s hs c (by omega)
   .
    rcases hz c g (by simp only[List.mem_cons,not_or];exact⟨e,i⟩) with h5|h5
    . exact .inl h5
    . exact .inr fun s hs=>h5 s (List.mem_cons_of_mem _ hs))
  rcases List.mem_cons.1 hk with rfl|hk
  .
   rw[Qbz W r z k d (fun c g j=>?_)] at a
   .
    rcases Rat.mul_eq_zero.1 a with l|l
    . exact(h2 l).elim
    . exact l
   .
    by_cases e:c∈ hs
    . rw[m c e];grind
    .
     rcases hz c g (by simp only[List.mem_cons,not_or];exact⟨j,e⟩) with h5|h5
     . rw[h5];grind
     . rw[h5 r List.mem_cons_self];grind
  . exact m k hk
 | [],_ :: _,_,_,h,_,_,_,_,_=>h.elim
 |r :: S,[],_,_,h,_,_,_,_,_=>h.elim
def lessBy(c:Nat)(s r:Vec):Vec:=fun i=>r i - s i*(r c / s c)
structure Elim (W:Nat) (M:List Vec) (c:Nat) (L S:List Vec) (hs:Vy):Prop where
 ech:Ech 0 c S hs
 zero:∀r,r∈ L->∀i,i<c->r i=0
 null:∀x,Null W M x↔Null W L x/\Null W S x
theorem Elim.start(W:Nat)(M:List Vec):Elim W M 0 M [] []:=⟨Nat.le_refl _,fun _ _ i b=>by omega,fun x=>⟨fun h=>⟨h,fun r a=>by cases a⟩,fun h=>h.1⟩⟩
theorem Elim.skip{W c:Nat}{M L S:List Vec}{hs:Vy}(h:Elim W M c L S hs)(d:∀r,r∈ L->r c=0):Elim W M (c+1) L S hs:=
 ⟨h.ech.mono (Nat.le_succ _),fun r a i e=>by
   rcases Nat.lt_or_ge i c with b|b
   . exact h.zero r a i b
   . obtain rfl:i=c:=by omega
     exact d r a,h.null⟩
theorem Elim.step{W c j:Nat}{M L S:List Vec}{hs:Vy}{s:Vec}(h:Elim W M c L S hs)(m:L[j]?=some s)(q:s c≠0):Elim W M (c+1) ((L.eraseIdx j).map (lessBy c s)) (S++ [s]) (hs++ [c]):=by
 have b:s∈ L:=mO m;have n:∀i,i<c->s i=0:=h.zero s b;refine⟨h.ech.snoc lZ q n,fun r d i f=>?_,fun x=>?_⟩
 .
  obtain⟨t,g,rfl⟩:=List.mem_map.1 d;have k:=List.mem_of_mem_eraseIdx g;unfold lessBy;rcases Nat.lt_or_ge i c with a|a
  . rw[n i a,h.zero t k i a];grind
  . obtain rfl:i=c:=by omega
    grind
 .
  rw[h.null x,Null.app];have o:∀t:Vec,dot W s x=0->(dot W (lessBy c s t) x=0↔dot W t x=0):=fun t a=>by
   unfold lessBy;rw[Qbn,a];grind
  constructor
  .
   rintro⟨a,l⟩;refine⟨fun r d=>?_,l,fun r d=>?_⟩
   . obtain⟨t,g,rfl⟩:=List.mem_map.1 d
     exact(o t (a s b)).2 (a t (List.mem_of_mem_eraseIdx g))
   . obtain rfl:r=s:=by simpa using d
     exact a r b
  .
   rintro⟨a,l,u⟩;have p:dot W s x=0:=u s (by simp);refine⟨fun r d=>?_,l⟩;obtain⟨i,f⟩:=List.mem_iff_getElem?.1 d;by_cases e:i=j
   .
    subst e;obtain rfl:=Option.some.inj (m.symm.trans f);exact p
   . have v:r∈ L.eraseIdx j:=List.mem_eraseIdx_iff_getElem?.2 ⟨i,e,f⟩
     exact(o r p).1 (a _ (List.mem_map.2 ⟨r,v,rfl⟩))
theorem Elim.done{W:Nat}{M L S:List Vec}{hs:Vy}(h:Elim W M W L S hs):Ech 0 W S hs/\∀x,Null W M x↔Null W S x:=by
 refine⟨h.ech,fun x=>?_⟩;rw[h.null x];exact⟨fun k=>k.2,fun k=>⟨fun r a=>Qbm W r x fun c b=>by rw[h.zero r a c b];grind,k⟩⟩
def red(r:Vec):List Vec->List Nat->Vec
 |t :: T,h :: hs=>red (fun i=>r i - t i*r h) T hs
 |_,_=>r
def cln:List Vec->List Nat->List Vec
 |r :: S,h :: hs=>red (fun i=>r i / r h) (cln S hs) hs :: cln S hs
 |_,_=>[]
def Cln:Nat->Nat->List Vec->List Nat->Prop
 |lo,hi,[],[]=>lo<=hi
 |lo,hi,r :: S,h :: hs=>lo<=h/\r h=1/\(∀c,c<h->r c=0)/\(∀c,c∈ hs->r c=0)/\Cln (h+1) hi S hs
 |_,_,_,_=>False
theorem Cln.ech:∀{S:List Vec} {hs:Vy} {lo a:Nat},Cln lo a S hs->Ech lo a S hs
 | [],[],_,_,h=>h
 |r :: S,h :: hs,lo,a,⟨h1,h2,h3,_,h4⟩=>⟨h1,by rw[h2];decide,h3,Cln.ech h4⟩
 | [],_ :: _,_,_,h=>h.elim
 |r :: S,[],_,_,h=>h.elim
theorem Qjf(W:Nat):∀{T:List Vec} {hs:Vy} {lo e:Nat} (r:Vec),Cln lo e T hs->(∀c,c<lo->red r T hs c=r c)/\(∀c,c∈ hs->red r T hs c=0)/\∀x,Null W T x->dot W (red r T hs) x=dot W r x
 | [],[],_,_,r,_=>⟨fun _ _=>rfl,fun c a=>by(cases a),fun _ _=>rfl⟩
 |t :: T,h :: hs,lo,e,r,⟨h1,h2,h3,h4,h5⟩=>by
  obtain⟨f,g,j⟩:=Qjf W (fun i=>r i - t i*r h) h5;refine⟨fun c a=>?_,fun c a=>?_,fun x k=>?_⟩
  .
   simp only[red];rw[f c (by omega),h3 c (by omega)];grind
  .
   simp only[red];rcases List.mem_cons.1 a with rfl|a
   . rw[f c (by omega),h2]
     grind
   . exact g c a
  .
   obtain⟨b,d⟩:=Null.cons.1 k;simp only[red];rw[j x d,Qbn,b];grind
 | [],_ :: _,_,_,_,h=>h.elim
 |r :: S,[],_,_,_,h=>h.elim
theorem Qci(W:Nat):∀{S:List Vec} {hs:Vy} {lo b:Nat},Ech lo b S hs->Cln lo b (cln S hs) hs/\∀x,Null W (cln S hs) x↔Null W S x
 | [],[],_,_,h=>⟨h,fun _=>Iff.rfl⟩
 |r :: S,h :: hs,lo,b,⟨h1,h2,h3,h4⟩=>by
  obtain⟨f,d⟩:=Qci W h4;obtain⟨g,k,j⟩:=Qjf W (fun i=>r i / r h) f;refine⟨⟨h1,?_,fun c l=>?_,k,f⟩,fun x=>?_⟩
  . rw[g h (by omega)];grind
  . rw[g c (by omega),h3 c l];grind
  .
   simp only[cln];rw[Null.cons,Null.cons,d x];constructor
   .
    rintro⟨e,a⟩;rw[j x ((d x).2 a),Qc6] at e;exact⟨by grind,a⟩
   .
    rintro⟨e,a⟩;rw[j x ((d x).2 a),Qc6,e];exact⟨by grind,a⟩
 | [],_ :: _,_,_,h=>h.elim
 |r :: S,[],_,_,h=>h.elim
theorem Qf1:∀(S:List Vec) (hs:Vy),S.length=hs.length->(cln S hs).length=S.length
 | [],_,_=>rfl
 |r :: S,h :: hs,k=>by simp only[cln,List.length_cons];rw[Qf1 S hs (by simpa using k)]
 |r :: S,[],k=>by simp at k
theorem Ech.count:∀{S:List Vec} {hs:Vy} {lo a:Nat},Ech lo a S hs->hs.length<=a - lo
 | [],[],_,_,_=>Nat.zero_le _
 |r :: S,h :: hs,lo,a,⟨h1,_,_,h4⟩=>by have:=h4.count;have:=h4.le;simp only[List.length_cons];omega
 | [],_ :: _,_,_,h=>h.elim
 |r :: S,[],_,_,h=>h.elim
theorem Ech.hole:∀{S:List Vec} {hs:Vy} {lo a:Nat},Ech lo a S hs->hs.length<a - lo->∃c,lo<=c/\c<a/\c ∉ hs
 | [],[],lo,a,_,k=>⟨lo,Nat.le_refl _,by simp at k;omega,by simp⟩
 |r :: S,h :: hs,lo,a,⟨h1,_,_,h4⟩,k=>by
  have d:=h4.le;simp only[List.length_cons] at k;rcases Nat.lt_or_ge lo h with f|f
  .
   refine⟨lo,Nat.le_refl _,by omega,fun b=>?_⟩;rcases List.mem_cons.1 b with e|e
   . omega
   . have:=(h4.head lo e).1;omega
  .
   obtain⟨c,c1,c2,c3⟩:=h4.hole (by omega);refine⟨c,by omega,c2,fun b=>?_⟩;rcases List.mem_cons.1 b with e|e
   . omega
   . exact c3 e
 | [],_ :: _,_,_,h,_=>h.elim
 |r :: S,[],_,_,h,_=>h.elim
theorem Ech.all:∀{S:List Vec} {hs:Vy} {lo a:Nat},Ech lo a S hs->hs.length=a - lo->∀i h,hs[i]?=some h->h=lo+i
 | [],[],lo,a,_,k,i,h,e=>by simp at e
 |r :: S,h :: hs,lo,a,⟨h1,_,_,h4⟩,k,i,g,e=>by
  have b:=h4.le;have c:=h4.count;simp only[List.length_cons] at k;obtain rfl:h=lo:=by omega
  match i,e with
  |0,e=>simp at e;omega
  |i+1,e=>
   have:=h4.all (by omega) i g (by simpa using e);omega
 | [],_ :: _,_,_,h,_,_,_,_=>h.elim
 |r :: S,[],_,_,h,_,_,_,_=>h.elim
theorem Ech.last:∀{S:List Vec} {hs:Vy} {lo n:Nat},Ech lo (n+1) S hs->lo<=n->n ∉ hs->Ech lo n S hs
 | [],[],lo,n,_,k,_=>k
 |r :: S,h :: hs,lo,n,⟨h1,h2,h3,h4⟩,k,hn=>by
  have a:=h4.le;simp only[List.mem_cons,not_or] at hn;exact⟨h1,h2,h3,h4.last (by omega) hn.2⟩
 | [],_ :: _,_,_,h,_,_=>h.elim
 |r :: S,[],_,_,h,_,_=>h.elim
theorem Ech.row:∀{S:List Vec} {hs:Vy} {lo b:Nat},Ech lo b S hs->∀h,h∈ hs->∃r,r∈ S/\r h≠0/\∀c,c<h->r c=0
 | [],[],_,_,_,h,a=>by cases a
 |r :: S,k :: hs,lo,b,⟨h1,h2,h3,h4⟩,h,a=>by
  rcases List.mem_cons.1 a with rfl|a
  . exact⟨r,List.mem_cons_self,h2,h3⟩
  . obtain⟨s,d,e⟩:=h4.row h a
    exact⟨s,List.mem_cons_of_mem _ d,e⟩
 | [],_ :: _,_,_,h,_,_=>h.elim
 |r :: S,[],_,_,h,_,_=>h.elim
theorem Cln.at:∀{S:List Vec} {hs:Vy} {lo d:Nat},Cln lo d S hs->∀(i:Nat) (r:Vec) (h:Nat),S[i]?=some r->hs[i]?=some h->r h=1/\(∀c,c<h->r c=0)/\∀c,c∈ hs->h<c->r c=0
 | [],[],_,_,_,i,r,h,e,_=>by simp at e
 |s :: S,k :: hs,lo,d,⟨h1,h2,h3,h4,h5⟩,i,r,h,e,e'=>by
  match i,e,e' with
  |0,e,e'=>
   simp at e e';subst e;subst e';refine⟨h2,h3,fun c a b=>?_⟩;rcases List.mem_cons.1 a with rfl|a
   . omega
   . exact h4 c a
  |i+1,e,e'=>
   obtain⟨f,g,j⟩:=h5.at i r h (by simpa using e) (by simpa using e');refine⟨f,g,fun c a b=>?_⟩;rcases List.mem_cons.1 a with rfl|a
   . have:=(h5.ech.head h (mO (by simpa using e'))).1
     omega
   . exact j c a b
 | [],_ :: _,_,_,h,_,_,_,_,_=>h.elim
 |r :: S,[],_,_,h,_,_,_,_,_=>h.elim
theorem Ech.full{W:Nat}{S:List Vec}{hs:Vy}(h:Ech 0 W S hs)(a:∀x,Null W S x->∀c,c<W->x c=0):hs.length=W:=by
 apply bC;intro b;have d:=h.count;obtain⟨c,_,c2,c3⟩:=h.hole (by omega);obtain⟨x,x1,x2⟩:=h.solve W (fun i=>if i=c then 1 else 0) lZ;have:=a x x2 c c2;rw[x1 c c3,if_pos rfl] at this;revert this;decide
def wider(wide:Nat)(r:Vec)(v:Rat):Vec:=fun c=>if c=wide then v else r c
theorem Qqf(wide:Nat)(r:Vec)(v:Rat)(y:Vec):dot (wide+1) (wider wide r v) y=dot wide r y+v*y wide:=by
 simp only[dot];rw[Qai wide (wider wide r v) y r y (fun c a=>by unfold wider;rw[if_neg (by omega)])];unfold wider;rw[if_pos rfl]
def Sol(wide:Nat)(M:List Vec)(b:List Rat)(x:Vec):Prop:=∀(i:Nat) (r:Vec) (v:Rat),M[i]?=some r->b[i]?=some v->dot wide r x=v
theorem sol_null{wide:Nat}{M:List Vec}{b:List Rat}{x:Vec}:Sol wide M b x↔Null (wide+1) (List.zipWith (wider wide) M b) (wider wide x (-1)):=by
 have e:∀(r:Vec) (v:Rat),dot (wide+1) (wider wide r v) (wider wide x (-1))=dot wide r x - v:=fun r v=>by
  rw[Qqf,Qai wide r (wider wide x (-1)) r x (fun c g=>by unfold wider;rw[if_neg (by omega)])];unfold wider;rw[if_pos rfl];grind
 constructor
 .
  intro h r d;obtain⟨i,a⟩:=List.mem_iff_getElem?.1 d;rw[List.getElem?_zipWith] at a
  match hm:M[i]?,hb:b[i]?,a with
  |some m,some v,a=>
   simp at a;subst a;rw[e,h i m v hm hb];grind
  |none,_,a=>simp at a
  |some m,none,a=>simp at a
 .
  intro h i r v d f;have:=h (wider wide r v) (List.mem_iff_getElem?.2 ⟨i,by rw[List.getElem?_zipWith,d,f]⟩);rw[e] at this;grind
theorem Qqg{wide:Nat}{M:List Vec}{b:List Rat}{S:List Vec}{hs:Vy}(h:Ech 0 (wide+1) S hs)(d:∀x,Null (wide+1) (List.zipWith (wider wide) M b) x↔Null (wide+1) S x)(e:wide∈ hs)(x:Vec):¬Sol wide M b x:=by
 intro f;have g:=(d _).1 (sol_null.1 f);obtain⟨r,i,l,j⟩:=h.row wide e;have a:=g r i;rw[Qbz (wide+1) r _ wide (by omega) (fun c m k=>by rw[j c (by omega)];grind)] at a;unfold wider at a;rw[if_pos rfl] at a;grind
theorem Qqh{wide:Nat}{M:List Vec}{b:List Rat}{S:List Vec}{hs:Vy}(h:Ech 0 (wide+1) S hs)(j:∀x,Null (wide+1) (List.zipWith (wider wide) M b) x↔Null (wide+1) S x)(g:wide ∉ hs)(hl:hs.length<wide):
 ∃x y:Vec,Sol wide M b x/\Sol wide M b y/\∃c,c<wide/\x c≠y c:=by
 obtain⟨c,_,c2,c3⟩:=(h.last (Nat.zero_le _) g).hole (by omega);have a:∀f:Vec,∃x:Vec,(∀i,i ∉ hs->i≠wide->x i=f i)/\Sol wide M b x:=fun f=>by
  obtain⟨y,y1,y2⟩:=h.solve (wide+1) (wider wide f (-1)) lZ;refine⟨y,fun i k d=>?_,sol_null.2 ?_⟩
  . rw[y1 i k];unfold wider;rw[if_neg d]
  .
   rw[j];have e:wider wide y (-1)=y:=by
    funext i;unfold wider;by_cases e:i=wide
    .
     subst e;rw[if_pos rfl,y1 i g];unfold wider;rw[if_pos rfl]
    . rw[if_neg e]
   rw[e];exact y2
 obtain⟨x,x1,x2⟩:=a (fun _=>0);obtain⟨y,y1,y2⟩:=a (fun _=>1);refine⟨x,y,x2,y2,c,c2,?_⟩;rw[x1 c c3 (by omega),y1 c c3 (by omega)];decide
theorem Qqi{wide:Nat}{M:List Vec}{b:List Rat}{S:List Vec}{hs:Vy}(h:Ech 0 (wide+1) S hs)(s:∀x,Null (wide+1) (List.zipWith (wider wide) M b) x↔Null (wide+1) S x)(t:wide ∉ hs)(hl:¬hs.length<wide):
 hs.length=wide/\(∀i h:Nat,hs[i]?=some h->h=i)/\∀x:Vec,Sol wide M b x↔∀(i:Nat) (r:Vec),(cln S hs)[i]?=some r->x i=r wide:=by
 have n:=h.last (Nat.zero_le _) t;have v:=n.count;have f:hs.length=wide:=by omega
 have a:∀i h:Nat,hs[i]?=some h->h=i:=fun i k e=>by have:=n.all (by omega) i k e;omega
 refine⟨f,a,fun x=>?_⟩;obtain⟨w,y⟩:=Qci (wide+1) h;rw[sol_null,s,<-y];have o:∀(i:Nat) (r:Vec),(cln S hs)[i]?=some r->dot (wide+1) r (wider wide x (-1))=x i - r wide:=fun i r d=>by
  have j:i<wide:=by
   have l:=(gZ d).1;rw[Qf1 S hs h.len,h.len] at l;omega
  obtain⟨g,p⟩:∃g,hs[i]?=some g:=⟨hs[i]'(by omega),gE (by omega)⟩;obtain rfl:=a i g p;obtain⟨z,A,B⟩:=w.at _ r _ d p;simp only[dot];rw[Qbz wide r _ g j (fun c v C=>?_),z]
  .
   unfold wider;rw[if_pos rfl,if_neg (by omega)];grind
  .
   have:r c=0:=by
    rcases Nat.lt_or_ge c g with l|l
    . exact A c l
    .
     refine B c ?_ (by omega);obtain⟨u,q⟩:∃u,hs[c]?=some u:=⟨hs[c]'(by omega),gE (by omega)⟩;obtain rfl:=a c u q;exact mO q
   rw[this];grind
 constructor
 .
  intro m i r d;have:=m r (mO d);rw[o i r d] at this;grind
 .
  intro m r d;obtain⟨i,j⟩:=List.mem_iff_getElem?.1 d;rw[o i r j,m i r j];grind
namespace Sg
theorem Qln:∀(M N:Nat) (f:Nat→Nat),M<N→(∀n,n<N→f n<M)→∃a b,a<b∧b<N∧f a=f b
 |0,N,f,h,hf=>absurd (hf 0 (by omega)) (by omega)
 |M+1,0,f,h,hf=>absurd h (by omega)
 |M+1,N+1,f,h,hf=>by
  by_cases i:∃a,a<N∧f a=f N
  · obtain⟨a,j,e⟩:=i
    exact⟨a,N,j,by omega,e⟩
  ·
   have c:∀n,n<N→f n≠f N:=fun n d e=>i ⟨n,d,e⟩
   obtain⟨a,b,g,k,e⟩:=Qln M N (fun n=>if f N<f n then f n - 1 else f n) (by omega) (fun n d=>by
    have l:=hf n (by omega);have m:=hf N (by omega);have o:=c n d
    show (if f N<f n then f n - 1 else f n)<M
    split<;>omega)
   refine⟨a,b,g,by omega,?_⟩;have l:=c a (by omega);have m:=c b k
   split at e<;>split at e<;>omega
def isum:Nat→(Nat→Int)→Int
 |0,_=>0
 |n+1,f=>isum n f+f n
theorem Qlo:∀(n:Nat) (f g:Nat→Int),isum n (fun j=>f j - g j)=isum n f - isum n g
 |0,_,_=>by simp[isum]
 |n+1,f,g=>by simp only[isum,Qlo n f g];omega
theorem Qlp:∀(n:Nat) (f g:Nat→Int),(∀j,j<n→f j=g j)→isum n f=isum n g
 |0,_,_,_=>rfl
 |n+1,f,g,h=>by simp only[isum];rw[Qlp n f g (fun j a=>h j (by omega)),h n (by omega)]
theorem isum_le:∀(n:Nat) (f:Nat→Int) (l u:Int),(∀j,j<n→l≤f j∧f j≤u)→n*l≤isum n f∧isum n f≤n*u
 |0,_,_,_,_=>by simp[isum]
 |n+1,f,l,u,h=>by
  have c:=isum_le n f l u (fun j d=>h j (by omega));have e:=h n (by omega);simp only[isum];have a:((n+1:Nat):Int)*l=n*l+l:=by rw[Int.natCast_add,Int.add_mul];simp
  have b:((n+1:Nat):Int)*u=n*u+u:=by rw[Int.natCast_add,Int.add_mul];simp
  rw[a,b];omega
def dig(B n j:Nat):Nat:=n / B ^ j % B
theorem Qg8{B:Nat}(hB:0<B)(n j:Nat):dig B n j<B:=Nat.mod_lt _ hB
theorem Qlq{B:Nat}(hB:0<B):∀(k m n:Nat),m<B ^ k→n<B ^ k→(∀j,j<k→dig B m j=dig B n j)→m=n
 |0,m,n,hm,hn,_=>by simp at hm hn;omega
 |k+1,m,n,hm,hn,h=>by
  have a:m % B=n % B:=by have:=h 0 (by omega);simpa [dig] using this
  have b:m / B=n / B:=Qlq hB k (m / B) (n / B) (by rw[Nat.div_lt_iff_lt_mul hB];rwa [Nat.pow_succ] at hm) (by rw[Nat.div_lt_iff_lt_mul hB];rwa [Nat.pow_succ] at hn) (fun j c=>by
   have:=h (j+1) (by omega);simp only[dig] at this ⊢;rw[Nat.div_div_eq_div_mul,Nat.div_div_eq_div_mul,←Nat.pow_succ']
   exact this)
  rw[←Nat.div_add_mod m B,←Nat.div_add_mod n B,a,b]
def code(D:Nat)(v:Nat→Nat):Nat→Nat
 |0=>0
 |k+1=>code D v k+v k*D ^ k
theorem Qet{D:Nat}{v:Nat→Nat}:∀(k:Nat),(∀i,i<k→v i<D)→code D v k<D ^ k
 |0,_=>by simp[code]
 |k+1,h=>by
  have b:=Qet k (fun i c=>h i (by omega));have a:=h k (by omega);simp only[code,Nat.pow_succ];have d:v k*D ^ k+D ^ k≤D ^ k*D:=by
   rw[Nat.mul_comm (D ^ k) D,←Nat.succ_mul];exact Nat.mul_le_mul_right _ a
  omega
theorem Qlr{D:Nat}{v u:Nat→Nat}:∀(k:Nat),(∀i,i<k→v i<D)→(∀i,i<k→u i<D)→code D v k=code D u k→∀i,i<k→v i=u i
 |0,_,_,_,i,a=>absurd a (by omega)
 |k+1,hv,hu,e,i,a=>by
  have d:=Qet k (fun i a=>hv i (by omega));have f:=Qet k (fun i a=>hu i (by omega));simp only[code] at e;have c:v k=u k:=by
   have g:(code D v k+v k*D ^ k) / D ^ k=v k:=by
    rw[Nat.add_mul_div_right _ _ (by omega),Nat.div_eq_of_lt d,Nat.zero_add]
   have h:(code D u k+u k*D ^ k) / D ^ k=u k:=by
    rw[Nat.add_mul_div_right _ _ (by omega),Nat.div_eq_of_lt f,Nat.zero_add]
   rw[←g,e,h]
  rw[c] at e;by_cases b:i=k
  · rw[b];exact c
  · exact Qlr k (fun i a=>hv i (by omega)) (fun i a=>hu i (by omega)) (by omega) i (by omega)
theorem Qwb{a B:Nat}{z:Int}{x:Nat}(h: -(a:Int)≤z∧z≤a)(b:x≤B): -((a*B:Nat):Int)≤z*x∧z*x≤((a*B:Nat):Int):=by
 have c:z.natAbs≤a:=by omega
 have d:(z*x).natAbs≤a*B:=by
  rw[Int.natAbs_mul,Int.natAbs_natCast];exact Nat.mul_le_mul c b
 omega
theorem siegel(k a:Nat)(s:0<a)(A:Nat→Nat→Int)(t:∀i j,i<k→j<k+1→ -(a:Int)≤A i j∧A i j≤a):
 ∃y:Nat→Int,(∃j,j<k+1∧y j≠0)∧(∀i,i<k→isum (k+1) (fun j=>A i j*y j)=0)∧∀j,(y j).natAbs≤(2*((k+1)*a)) ^ k:=by
 obtain⟨E,d⟩:∃E,2*((k+1)*a)=E:=⟨_,rfl⟩;have u:0<E:=by rw[←d];exact Nat.mul_pos (by omega) (Nat.mul_pos (by omega) s)
 rw[d];obtain⟨B,hB⟩:∃B,E ^ k=B:=⟨_,rfl⟩;rw[hB];have c:0<B+1:=by omega
 obtain⟨H,o⟩:∃H,(k+1)*(a*B)=H:=⟨_,rfl⟩;have v:E*B=2*H:=by rw[←d,←o,Nat.mul_assoc,Nat.mul_assoc]
 have f:∀n i,i<k→ -(H:Int)≤isum (k+1) (fun j=>A i j*(dig (B+1) n j:Int))∧isum (k+1) (fun j=>A i j*(dig (B+1) n j:Int))≤H:=fun n i b=>by
  have:=isum_le (k+1) (fun j=>A i j*(dig (B+1) n j:Int)) (-((a*B:Nat):Int)) ((a*B:Nat):Int) (fun j g=>Qwb (t i j b g) (by have:=Qg8 c n j;omega));rw[Int.mul_neg,←Int.natCast_mul,o] at this;exact this
 have h:∀n i,i<k→(isum (k+1) (fun j=>A i j*(dig (B+1) n j:Int))+H).toNat<E*B+1:=fun n i b=>by
  have:=f n i b;omega
 obtain⟨m,n,w,x,e⟩:=Qln ((E*B+1) ^ k) ((B+1) ^ (k+1)) (fun n=>code (E*B+1) (fun i=>(isum (k+1) (fun j=>A i j*(dig (B+1) n j:Int))+H).toNat) k)
  (by
    have l:(E*B+1) ^ k≤(E*(B+1)) ^ k:=Nat.pow_le_pow_left (by rw[Nat.mul_add];omega) k;rw[Nat.mul_pow,hB] at l;have p:0<(B+1) ^ k:=Nat.pow_pos c;have q:(B+1) ^ k*(B+1)=B*(B+1) ^ k+(B+1) ^ k:=by rw[Nat.mul_add,Nat.mul_one,Nat.mul_comm]
    rw[Nat.pow_succ,q]
    omega)
  (fun n _=>Qet k (fun i b=>h n i b))
 have z:=Qlr k (fun i b=>h m i b) (fun i b=>h n i b) e;refine⟨fun j=>(dig (B+1) m j:Int) - (dig (B+1) n j:Int),?_,fun i b=>?_,fun j=>?_⟩
 ·
  by_cases r:∃j,j<k+1∧(dig (B+1) m j:Int) - (dig (B+1) n j:Int)≠0
  · exact r
  ·
   exfalso
   have:=Qlq c (k+1) m n (by omega) x (fun j g=>by
    by_cases C:(dig (B+1) m j:Int) - (dig (B+1) n j:Int)=0
    · omega
    · exact absurd ⟨j,g,C⟩ r)
   omega
 ·
  have l:=z i b;have p:=f m i b;have q:=f n i b;have D:=Qlo (k+1) (fun j=>A i j*(dig (B+1) m j:Int)) (fun j=>A i j*(dig (B+1) n j:Int));rw[Qlp (k+1) _ (fun j=>A i j*(dig (B+1) m j:Int) - A i j*(dig (B+1) n j:Int)) (fun j _=>Int.mul_sub _ _ _),D];omega
 ·
  have l:=Qg8 c m j;have p:=Qg8 c n j
  show ((dig (B+1) m j:Int) - (dig (B+1) n j:Int)).natAbs≤B
  omega
end Sg
def vec(l:List Rat):Vec:=fun i=>l.getD i 0
def cornerM:List Vec:=[vec [1,0,0,1,0,0],vec [0,0,1,0,1,0],vec [-1,-1,0,0,0,0],vec [0,1,0,0,0,1],vec [0,1,0,0,0,0],vec [0,-1,-1,0,0,0]]
theorem Qh6(x:Vec):dot 6 (vec [1,0,0,1,0,0]) x=x 0+x 3/\dot 6 (vec [0,0,1,0,1,0]) x=x 2+x 4/\dot 6 (vec [-1,-1,0,0,0,0]) x= - x 0 - x 1/\dot 6 (vec [0,1,0,0,0,1]) x=x 1+x 5/\dot 6 (vec [0,1,0,0,0,0]) x=x 1/\dot 6 (vec [0,-1,-1,0,0,0]) x= - x 1 - x 2:=by
 simp only[dot,vec,List.getD_cons_zero,List.getD_cons_succ];refine⟨?_,?_,?_,?_,?_,?_⟩<;>grind
theorem Qoj(x:Vec)(h:Null 6 cornerM x)(c:Nat)(a:c<6):x c=0:=by
 obtain⟨d0,d1,d2,d3,d4,d5⟩:=Qh6 x;have b:=h (vec [1,0,0,1,0,0]) (by simp[cornerM]);have d:=h (vec [0,0,1,0,1,0]) (by simp[cornerM]);have f:=h (vec [-1,-1,0,0,0,0]) (by simp[cornerM]);have g:=h (vec [0,1,0,0,0,1]) (by simp[cornerM]);have i:=h (vec [0,1,0,0,0,0]) (by simp[cornerM]);have j:=h (vec [0,-1,-1,0,0,0]) (by simp[cornerM]);have e:c=0∨c=1∨c=2∨c=3∨c=4∨c=5:=by omega
 rcases e with rfl|rfl|rfl|rfl|rfl|rfl<;>grind
theorem Qfc(x:Vec):Sol 6 cornerM [0,0,0,0,-1,0] x↔x 0=1/\x 1= -1/\x 2=1/\x 3= -1/\x 4= -1/\x 5=1:=by
 obtain⟨d0,d1,d2,d3,d4,d5⟩:=Qh6 x;constructor
 .
  intro h;have c:=h 0 _ _ rfl rfl;have d:=h 1 _ _ rfl rfl;have e:=h 2 _ _ rfl rfl;have f:=h 3 _ _ rfl rfl;have g:=h 4 _ _ rfl rfl;have j:=h 5 _ _ rfl rfl;grind
 .
  rintro⟨k,l,m,n,o,p⟩ i r v a b
  match i,a,b with
  |0,a,b=>cases a;cases b;grind
  |1,a,b=>cases a;cases b;grind
  |2,a,b=>cases a;cases b;grind
  |3,a,b=>cases a;cases b;grind
  |4,a,b=>cases a;cases b;grind
  |5,a,b=>cases a;cases b;grind
  |i+6,a,b=>simp[cornerM] at a
structure Fr (w w':Vz):Prop where
 size:w.heap.size<=w'.heap.size
 keep:∀b i u,w.cell? ⟨b,i,none⟩=some u->((∃x,u=Value.bool x)∨∃n,u=Value.int .u64 n)->w'.heap[b]?=w.heap[b]?
theorem Fr.cell{w w':Vz}(h:Fr w w'){b i:Nat}{u:Value}(a:w.cell? ⟨b,i,none⟩=some u)(hk:(∃x,u=Value.bool x)∨∃n,u=Value.int .u64 n)(j:Nat):w'.cell? ⟨b,j,none⟩=w.cell? ⟨b,j,none⟩:=
 World.cell?_of_block (w:=w) (h.keep b i u a hk)
theorem Fr.trans{u v w:Vz}(h:Fr u v)(k:Fr v w):Fr u w:=
 ⟨Nat.le_trans h.size k.size,fun b i x a hk=>(k.keep b i x ((h.cell a hk i).trans a) hk).trans (h.keep b i x a hk)⟩
theorem Fr.of_below{w w':Vz}(h:Bl w w'):Fr w w':=⟨h.size,fun b i u a _=>h.block b (World.block_lt_of_cell? _ _ a)⟩
def Plain(C:Vw):Prop:=∀u,u∈ C.toList->(∀x,u≠Value.bool x)/\∀n,u≠Value.int .u64 n
theorem Fr.of_only{w w':Vz}{g:Nat}{t:Vr}{C:Vw}(c:Only g w w')(hs:SB w g t C)(hC:Plain C):Fr w w':=by
 refine⟨c.size,fun b i u a hk=>c.block b (World.block_lt_of_cell? _ _ a) ?_⟩;rintro rfl;rw[hs.cell] at a;obtain⟨d,f⟩:=hC u (mO (by rw[Array.getElem?_toList];exact a));rcases hk with ⟨x,e⟩|⟨n,e⟩
 . exact d x e
 . exact f n e
theorem Row.fr{w w':Vz}{a:Vx}{cap:Nat}{l:Vy}(h:Row .u64 w a cap l)(c:Fr w w'):Row .u64 w' a cap l:=by
 refine⟨h.fit,?_,fun i g=>?_⟩
 .
  rcases h.shape with d|⟨e,b,rfl,j⟩
  . exact .inl d
  . exact .inr ⟨e,b,rfl,by have:=c.size;omega⟩
 . obtain⟨e,b,d,j,f⟩:=h.cell i g
   exact⟨e,b,d,by have:=c.size;omega,(c.cell f (.inr ⟨_,rfl⟩) _).trans f⟩
theorem NumV.fr{w w':Vz}{a:Vx}{n c x:Nat}(h:NumV w a n c x)(b:Fr w w'):NumV w' a n c x:=by
 obtain⟨l,hl,h⟩:=h;exact⟨l,hl,h.row.fr b,h.num,h.short⟩
theorem FracV.fr{w w':Vz}{v:Value}{q:Rat}(h:FracV w v q)(g:Fr w w'):FracV w' v q:=by
 obtain⟨neg,a,n,c,b,m,d,e,h⟩:=h;refine⟨neg,a,n,c,b,m,d,e,h.neg,h.top.fr g,?_⟩;rcases h.low with f|⟨f,i⟩
 . exact .inl f
 . exact .inr ⟨f,i.fr g⟩
theorem QRow.fr{w w':Vz}{a:Vx}{cap:Nat}{c:List FE}(h:QRow w a cap c)(f:Fr w w'):QRow w' a cap c:=by
 refine⟨⟨h.row.fit,⟨fun j u k=>?_⟩⟩,fun t l=>⟨(h.ts t l).1.fr f,(h.ts t l).2⟩⟩;obtain⟨b,g,m,s,v⟩:=h.row.row.cell j u k;have i:j<(c.flatMap FE.cells).length:=(gZ k).1;rw[Qa9 (sz:=3) (fun _=>rfl)] at i;obtain⟨e,o⟩:∃e,c[j / 3]?=some e:=⟨c[j / 3]'(by omega),gE (by omega)⟩;obtain⟨A,p,d,_,q,_⟩:=h.at o;rw[m] at d;cases d;obtain⟨n,x,y,z,B,C,D,r,_⟩:=(h.get o).1;simp at r;rw[r.1] at q;refine⟨b,g,m,Nat.lt_of_lt_of_le s f.size,?_⟩;rw[f.cell q (.inl ⟨_,rfl⟩)];exact v
structure Grow (w:Vz) (B:Nat) (e:Vr) (sz:Nat) (K:Value->Prop) (v:Value) (n:Nat) (xs:Vv):Prop where
 own:w.ownsRow B e sz v n xs
 all:∀g,v.ownBlock=some g->∃C,w.heap[g]?=some (.cells C e (0,0))/\∀u,u∈ C.toList->K u
theorem Grow.nil(w:Vz)(B:Nat)(e:Vr)(sz:Nat)(K:Value->Prop):Grow w B e sz K (.slice none 0 0) 0 []:=⟨World.ownsRow_nil w B e sz,fun g a=>by simp[Value.ownBlock] at a⟩
theorem Grow.keep{w w':Vz}{B:Nat}{e:Vr}{sz:Nat}{K:Value->Prop}{v:Value}{n:Nat}{xs:Vv}(h:Grow w B e sz K v n xs)(hk:∀g,v.ownBlock=some g->w'.heap[g]?=w.heap[g]?):Grow w' B e sz K v n xs:=by
 refine⟨⟨h.own.1,?_⟩,fun g a=>?_⟩
 .
  rcases h.own.2 with b|⟨g,cap,c,rfl,f,a,d⟩
  . exact .inl b
  . exact .inr ⟨g,cap,c,rfl,f,by rw[hk g rfl];exact a,d⟩
 . obtain⟨C,b,d⟩:=h.all g a
   exact⟨C,by rw[hk g a];exact b,d⟩
theorem Qlf{z:Vw}{n:Nat}{u:Value}(a:u∈ (Builtin.zeroCells z n).toList):u∈ z.toList:=by
 simp[Builtin.zeroCells] at a;obtain⟨j,b,e⟩:=a;have c:0<z.size:=by
  rcases Nat.eq_zero_or_pos z.size with h|h
  . rw[h] at b;omega
  . exact h
 rw[getElem!_pos z (j % z.size) (Nat.mod_lt _ c)] at e;rw[<-e];exact Array.getElem_mem_toList _
theorem Grow.app{P:Program}{w:Vz}{B:Nat}{t ty e:Vr}{i:TypeInfo}{z:Value}{sz bytes:Nat}{K:Value->Prop}{v:Value}{n:Nat}{xs:Vv}(h:Grow w B e sz K v n xs)
 (R:P.underlying t=some (.slice e)) (S:P.info? e=some i) (T:i.zero=some z) (d:i.size=sz) (p:i.bytes=bytes) (U:z.cells.size=sz) (V:0<sz) (H:∀u,u∈ z.cells.toList->K u)
 (a:Addr) (m c:Nat) (news:Vv) (hl:news.length=m*sz) (f:∀j u,news[j]?=some u->w.cell? (a.add j)=some u) (h1:∀u,u∈ news->u.oneCell'=true) (W:∀u,u∈ news->K u)
 (X:n+m<=1048576) (I:bytes<=1000) (q:B<=w.heap.size):
 ∃G w',(Builtin.append_ #[t,t] ty #[v,.slice (some a) m c]).run P w=.ok G w'/\Grow w' B e sz K G (n+m) (xs++news)/\w.grownBy w' v.ownBlock/\(G.ownBlock=v.ownBlock∨G.ownBlock=some w.heap.size):=by
 have Y:(n+m)*bytes<=1048576*1000:=Nat.mul_le_mul X I;obtain⟨G,w',r,J,s,L,Z⟩:=run_append_own_at (P:=P) w B t ty e i z sz bytes R S T d p U V v n xs h.own a m c news hl f h1 (by unfold maxLen;omega) (by omega) q;refine⟨G,w',r,⟨J,?_⟩,s,Z⟩;have l:news.length=m*i.size:=by rw[d];exact hl
 have aa:xs.length=n*i.size:=by rw[d];exact h.own.1
 have o:∀(C:Vw) (M:Vz) (n cap:Nat),(∀u,u∈ C.toList->K u)->∀g,(Value.slice (some ⟨M.heap.size,0,none⟩) n cap).ownBlock=some g->∃D,(M.drew.alloc (.cells C e)).heap[g]?=some (.cells D e (0,0))/\∀u,u∈ D.toList->K u:=fun C M n cap hC g x=>by
  have e:M.heap.size=g:=by simpa [Value.ownBlock] using x
  subst e;exact⟨C,heap_alloc_new M.drew _,hC⟩
 rcases h.own.2 with ⟨rfl,rfl⟩|⟨g,cap,y,rfl,ae,x,af,ag,ab,A⟩
 .
  by_cases hm:m=0
  . rw[L.2 ⟨rfl,hm⟩]
    exact fun g x=>by simp[Value.ownBlock] at x
  rw[run_append_nil (P:=P) w t ty e i z R S T a m c news l f (by omega) (by omega) (by rw[p];simp only[Nat.zero_add] at Y;omega)] at r;injection r with N O
  subst N;subst O;refine o _ w _ _ fun u b=>?_
  simp only[Array.toList_append,List.mem_append] at b;rcases b with b|b
  . exact W u b
  . exact H u (Qlf b)
 .
  obtain⟨C,hC,E⟩:=h.all g rfl;rw[x] at hC;injection hC with hC
  injection hC with hC _ _
  subst hC;by_cases k:n+m<=cap
  .
   have Q:n*i.size+news.length<=y.size:=by rw[l,ab,d,<-Nat.add_mul];exact Nat.mul_le_mul_right _ k
   rw[run_append_room (P:=P) w t ty e i R S g n cap y x a m c news l f h1 k Q] at r;injection r with N O
   subst N;subst O;intro g' ad;have e:g=g':=by simpa [Value.ownBlock] using ad
   subst e;refine⟨_,setRow_heap w g y _ e _ x,fun u b=>?_⟩;simp only[List.toList_toArray,List.mem_append] at b;rcases b with (b|b)|b
   . exact E u (List.mem_of_mem_take b)
   . exact W u b
   . exact E u (List.mem_of_mem_drop b)
  .
   have F:∀j u,xs[j]?=some u->w.cell? ((⟨g,0,none⟩:Addr).add j)=some u:=h.own.cells (g:=g) rfl;rw[run_append_grow (P:=P) w t ty e i z R S T ⟨g,0,none⟩ n cap xs aa F a m c news l f (by omega) (by omega) (by rw[p];exact growslice_fits (by omega) (by omega))] at r;injection r with N O
   subst N;subst O;refine o _ w _ _ fun u b=>?_
   simp only[Array.toList_append,List.mem_append] at b;rcases b with (b|b)|b
   . rw[<-A] at b
     exact E u (List.mem_of_mem_take b)
   . exact W u b
   . exact H u (Qlf b)
def MR.val(r:MR):Value:=.slice r.a r.ts.length r.cap
theorem Qes(rs:List MR):rs.flatMap MR.cells=rs.map MR.val:=by
 induction rs with
 |nil=>rfl
 |cons r l a=>rw[List.flatMap_cons,a];rfl
def IsSl(u:Value):Prop:=∃a n c,u=Value.slice a n c
theorem Qvh(rs:List MR):∀u,u∈ rs.map MR.val->IsSl u:=fun u a=>by
 obtain⟨r,_,rfl⟩:=List.mem_map.1 a;exact⟨_,_,_,rfl⟩
theorem Qvi(rs:List MR):∀u,u∈ rs.map MR.val->u.oneCell'=true:=fun u a=>by
 obtain⟨r,_,rfl⟩:=List.mem_map.1 a;rfl
theorem IsSl.plain{C:Vw}(h:∀u,u∈ C.toList->IsSl u):Plain C:=fun u b=>by
 obtain⟨a,n,c,rfl⟩:=h u b;exact⟨fun x=>by simp,fun n=>by simp⟩
def FE.re(K:Nat)(t:FE):FE:=⟨t.x,t.y,t.z,t.q,K⟩
theorem Qvj(K:Nat)(a:List FE):(a.map (FE.re K)).flatMap FE.cells=a.flatMap FE.cells:=by
 induction a with
 |nil=>rfl
 |cons t l b=>rw[List.map_cons,List.flatMap_cons,b,List.flatMap_cons];rfl
theorem QRow.re{w:Vz}{a:Vx}{cap K:Nat}{b:List FE}(h:QRow w a cap b)(d:0<K)(e:∀t,t∈ b->Fits t.q K):QRow w a cap (b.map (FE.re K)):=by
 refine⟨⟨by rw[List.length_map];exact h.row.fit,by rw[Qvj];exact h.row.row⟩,fun t f=>?_⟩;obtain⟨u,c,rfl⟩:=List.mem_map.1 f;exact⟨(h.ts u c).1,e u c,d⟩
structure MOk (w:Vz) (W K:Nat) (r:MR):Prop where
 row:QRow w r.a r.cap r.ts
 len:r.ts.length=W
 sz:∀t,t∈ r.ts->t.k<=K
theorem MOk.fr{w w':Vz}{W K:Nat}{r:MR}(h:MOk w W K r)(a:Fr w w'):MOk w' W K r:=⟨h.row.fr a,h.len,h.sz⟩
def Oks(w:Vz)(W K:Nat)(rs:List MR):Prop:=∀r,r∈ rs->MOk w W K r
theorem Oks.fr{w w':Vz}{W K:Nat}{rs:List MR}(h:Oks w W K rs)(a:Fr w w'):Oks w' W K rs:=fun r b=>(h r b).fr a
theorem MR.q_beyond{r:MR}{i:Nat}(h:r.ts.length<=i):r.q i=0:=by
 unfold MR.q;rw[List.getD_eq_getElem?_getD,List.getElem?_eq_none (by simpa using h)];rfl
theorem qAt_q(r:MR):qAt r.ts=r.q:=rfl
theorem MOk.made{w:Vz}{g W K B:Nat}{us:List FE}{r:MR}{f:Nat->Rat->Rat}{v:Vec}(o:QBlk w g us)(p:r.ts.length=W)(m:Made f B r.ts us r.ts.length)(s:0<K)(x:∀i,i<W->f i (r.q i)=v i)(y:∀i,W<=i->v i=0)(b:∀i,i<W->Fits (v i) K):
 ∃k:MR,k.val=.slice (some ⟨g,0,none⟩) W W/\MOk w W K k/\k.q=v:=by
 have a:us.length=W:=by rw[m.1];exact p
 have c:∀i u,us[i]?=some u->u.q=v i:=fun i u d=>by
  have j:i<W:=by rw[<-a];exact(gZ d).1
  obtain⟨e,n⟩:∃e,r.ts[i]?=some e:=⟨r.ts[i]'(by omega),gE (by omega)⟩;obtain⟨C,z,A,_⟩:=m.2 i e (by omega) n;obtain rfl:=Option.some.inj (d.symm.trans z);rw[A,<-MR.q_at n];exact x i j
 refine⟨⟨some ⟨g,0,none⟩,us.length,us.map (FE.re K)⟩,?_,⟨?_,by simp[a],fun t l=>?_⟩,?_⟩
 . simp[MR.val,a]
 .
  refine o.row.re s fun t l=>?_
  obtain⟨i,j⟩:=List.mem_iff_getElem?.1 l;rw[c i t j];exact b i (by rw[<-a];exact(gZ j).1)
 . obtain⟨u,_,rfl⟩:=List.mem_map.1 l
   exact Nat.le_refl _
 .
  funext i;rcases Nat.lt_or_ge i W with h|h
  .
   obtain⟨u,d⟩:∃u,us[i]?=some u:=⟨us[i]'(by omega),gE (by omega)⟩;rw[MR.q_at (e:=FE.re K u) (by simp[d])];exact c i u d
  . rw[MR.q_beyond (by simpa [a] using h),y i h]
theorem Qlg:∀u,u∈ (Value.slice none 0 0).cells.toList->IsSl u:=fun u a=>by
 have e:(Value.slice none 0 0).cells=#[.slice none 0 0]:=by rfl
 rw[e] at a;obtain rfl:u=_:=by simpa using a
 exact⟨_,_,_,rfl⟩
theorem Grow.made(w:Vz)(e:Vr)(sz:Nat)(K:Value->Prop):Grow (w.alloc (.cells #[] e)) w.heap.size e sz K (.slice (some ⟨w.heap.size,0,none⟩) 0 0) 0 []:=
 ⟨World.ownsRow_made w #[] 0 lZ (Nat.zero_le _) (by simp),fun g a=>by
   have e:w.heap.size=g:=by simpa [Value.ownBlock] using a
   subst e
   exact⟨#[],SB.new w _ _,fun u b=>by simp at b⟩⟩
theorem Qvk(a:Vx)(cap:Nat)(rs:List MR)(w:Vz)(h:ARow MR.cells w a cap rs)(hl:rs.length<=1000):
 Calls prog 124 #[.slice a rs.length cap] w fun e w'=>(∃v,e=.returned v/\Grow w' w.heap.size 93 1 IsSl v rs.length (rs.map MR.val))/\Below w.heap.size w w':=by
 obtain⟨J,t,f,g,hz2⟩:=info_parts Qcv;have K:∀(w:Vz) (a:Vx) (n c n' x:Nat),(binOp .eql 89 (.slice a n c) (.slice none n' x)).run prog w=.ok (.bool a.isNone) w:=fun w a n c n' x=>Lib.run_eql_slice_nil w _ _ a n c n' x underlying89
 have H:=Hi h;clear h;cases a with
 |none=>
  have y:rs= []:=by
   cases rs with
   |nil=>rfl
   |cons r l=>
    obtain⟨b,z,e,_⟩:=H.o.at (sz:=1) (fun _=>rfl) (by decide) (i:=0) (e:=r) rfl;cases e
  subst y;clear t f g hz2;go_enter func124,ntmps124;go_wp2;go_ret;exact⟨⟨_,rfl,Grow.nil _ _ _ _ _⟩,Below.refl _ _⟩
 |some ad=>
  obtain⟨W,s⟩:=nm (w.alloc (.cells #[] 93));have d:Bl w W:=by rw[<-s];exact(Below.refl _ _).alloc lZ _
  have m:Grow W w.heap.size 93 1 IsSl (.slice (some ⟨w.heap.size,0,none⟩) 0 0) 0 []:=by rw[<-s];exact Grow.made w _ _ _
  obtain⟨L,w',A,p,q,B⟩:=m.app (P:=prog) (ty:=89) underlying89 t f g hz2 rfl (by decide) Qlg ad rs.length cap (rs.map MR.val) (by simp) (fun j u C=>by
   rw[<-Qes] at C;obtain⟨b,z,e,D,E⟩:=H.o.row.cell j u C;cases e;rw[Qau]
   exact ce d D E) (Qvi rs) (Qvh rs) (by omega) (by decide) d.size
  rw[<-s] at A;obtain⟨F,G,I⟩:=Ib A p (d.grown q d.size (fun k hk=>by simp[Value.ownBlock] at hk;omega));clear A p q B m d s t f g hz2;go_enter func124,ntmps124;go_wp2_with (at_builtin;refine Qdp _ rfl _ _ 89 89 rfl (.slice (some ⟨w.heap.size,0,none⟩) 0 0) (.slice (some ad) rs.length cap) _ _ rfl rfl F.o ?_);go_wp2;go_ret;refine⟨⟨_,rfl,?_⟩,I.o⟩;have:=G.o;rw[Nat.zero_add,List.nil_append] at this;exact this
def layCells(C:Vw):Nat->List Value->Array Value
 |_,[]=>C
 |o,v :: r=>layCells (C.setIfInBounds o v) (o+1) r
theorem Qdj:∀(vs:Vv) (o:Nat) (C:Vw),(layCells C o vs).size=C.size
 | [],_,_=>rfl
 |v :: r,o,C=>by rw[layCells,Qdj r];simp
theorem Qg5:∀(vs:Vv) (o:Nat) (C:Vw) (i:Nat),o+vs.length<=C.size->(layCells C o vs)[i]?=if o<=i/\i<o+vs.length then vs[i - o]? else C[i]?
 | [],o,C,i,_=>by rw[if_neg (by simp only[List.length_nil];omega)];rfl
 |v :: r,o,C,i,h=>by
  simp only[List.length_cons] at h;rw[layCells,Qg5 r (o+1) _ i (by simp;omega),Array.getElem?_setIfInBounds];by_cases a:i=o
  .
   subst a;rw[if_neg (by omega),if_pos rfl,if_pos (by omega),if_pos (by simp only[List.length_cons];omega)];simp
  .
   by_cases b:o+1<=i/\i<o+1+r.length
   . rw[if_pos b,if_pos (by simp only[List.length_cons];omega),show i - o=(i - (o+1))+1 by omega]
     simp
   . rw[if_neg b,if_neg (Ne.symm a),if_neg (by simp only[List.length_cons];omega)]
theorem SB.cells{t:Vr}{g:Nat}:∀(vs:Vv) (o:Nat) {w:Vz} {C:Vw},SB w g t C->SB (w.setCells g o vs) g t (layCells C o vs)/\Only g w (w.setCells g o vs)
 | [],_,w,_,h=>⟨h,Only.refl _ _⟩
 |v :: r,o,w,C,h=>by
  obtain⟨a,b⟩:=SB.cells r (o+1) (h.set o v);exact⟨a,((Only.refl g w).setCell o v).trans b⟩
theorem Qvl:∀w,(zeroValue 93).run prog w=.ok (.slice none 0 0) w:=by
 intro w;obtain⟨i,a,h⟩:=Option.map_eq_some_iff.1 Qcv;simp only[Prod.mk.injEq] at h;simp[zeroValue,typeInfo,a,h.1]
theorem Qvm(g a cap i j n:Nat)(C:Vw)(w:Vz)(hs:SB w g 93 C)(m:a=0)(v:∀u,u∈ C.toList->IsSl u)(S:n<=cap)(z:C.size=cap)(x:cap<=maxLen)(I:i<j)(T:j<=n):
 Calls prog 126 #[.slice (some ⟨g,a,none⟩) n cap,.int .i64 i,.int .i64 j] w fun e w'=>e=.returned (.slice (some ⟨g,a,none⟩) (i+(n - j)) cap)/\
  w'=(w.drew.setCells g (a+i*1) ((C.toList.take n).drop j)).setCells g (a+(i+(n - j))) (List.replicate (n - (i+(n - j))) (.slice none 0 0)):=by
 obtain⟨J,B,D,E,hz2⟩:=info_parts Qcv;have G:cap<=9223372036854775807:=by simpa [maxLen] using x
 have c:∀k,w.cell? ⟨g,a+k,none⟩=C[k]?:=fun k=>by rw[m,Nat.zero_add];exact hs.cell k
 have d:∀k,w.frozen? ⟨g,a+k,none⟩=false:=fun k=>hs.free _
 obtain⟨news,b⟩:∃news,news=(C.toList.take n).drop j:=⟨_,rfl⟩;have p:news.length=n - j:=by rw[b];simp;omega
 have q:∀t u,news[t]?=some u->C[j+t]?=some u:=fun t u l=>by
  have F:=(gZ l).1;rw[b,List.getElem?_drop,List.getElem?_take_of_lt (by omega),Array.getElem?_toList] at l;exact l
 obtain⟨A,U,y⟩:∃A:Addr,(if cap=j then some (⟨g,a,none⟩:Addr) else some ⟨g,a+j,none⟩)=some A/\O (∀t u,news[t]?=some u->w.drew.cell? (A.add t)=some u):=by
  by_cases h:cap=j
  .
   refine⟨⟨g,a,none⟩,by simp[h],Hi fun t u l=>?_⟩;have:=(gZ l).1;omega
  .
   refine⟨⟨g,a+j,none⟩,by simp[h],Hi fun t u l=>?_⟩;rw[Qau,Nat.add_assoc];exact(c (j+t)).trans (q t u l)
 have K:O (news.length=(n - j)*1):=Hi (by rw[Nat.mul_one];exact p);have L:O (∀u∈ news,u.oneCell'=true):=Hi fun u l=>by
  rw[b] at l;obtain⟨_,_,_,rfl⟩:=v u (List.mem_of_mem_take (List.mem_of_mem_drop l));rfl
 have M:O (∀t,t<news.length->(w.drew.cell? ⟨g,a+i*1+t,none⟩).isSome=true/\w.drew.frozen? ⟨g,a+i*1+t,none⟩=false):=Hi fun t F=>by
  rw[Nat.mul_one,Nat.add_assoc];refine⟨?_,d _⟩
  show (w.cell? _).isSome=true
  rw[c,Array.getElem?_eq_getElem (by omega)];rfl
 obtain⟨r,s⟩:∃r,r=w.drew.setCells g (a+i*1) news:=⟨_,rfl⟩;have f:SB r g 93 (layCells C (a+i*1) news):=by rw[s];exact(SB.cells news _ hs.drew).1
 have N:∀ty,(Builtin.clear_ #[89] ty #[.slice (some ⟨g,a+(i+(n - j)),none⟩) (n - (i+(n - j))) (cap - (i+(n - j)))]).run prog r=.ok (.tuple #[]) (r.setCells g (a+(i+(n - j))) (List.replicate (n - (i+(n - j))) (.slice none 0 0))):=
  fun ty=>Lib.run_clear_slice r _ _ ty _ underlying89 Qvl rfl rfl g (a+(i+(n - j))) _ _ (by omega) (fun t F=>by
   rw[f.cell,Array.getElem?_eq_getElem (by rw[Qdj];omega)]
   rfl) (fun t F=>f.free _)
 have H:O (r=w.drew.setCells g (a+i*1) news):=Hi s;have P:O (news=(C.toList.take n).drop j):=Hi b;have Q:i<=cap:=by omega
 have R:j<=cap:=by omega
 clear s f hs q b p c d v D hz2 m z x;go_enter func126,ntmps126;go_wp2_with fail;go_region_law (refine step_append_room rfl (.tmp 22) (.tmp 25) 89 rfl 93 J 1 underlying89 B E g a i cap (by simp[Act.eval,Act.put]) A (n - j) (cap - j) news (by simp[Act.eval,Act.put]) K.o y.o L.o (by omega) M.o ?_;rw[<-H.o]);go_wp2;go_ret;exact⟨rfl,by rw[<-P.o,<-H.o]⟩
theorem Qvn(w:Vz)(B i j n:Nat)(v:Value)(xs:Vv)(h:Grow w B 93 1 IsSl v n xs)(F:j=i+1)(O:i<n):
 Calls prog 126 #[v,.int .i64 i,.int .i64 j] w fun e w'=>∃g p,v.ownBlock=some g/\p.ownBlock=some g/\e=.returned p/\Grow w' B 93 1 IsSl p (n - 1) (xs.eraseIdx i)/\Only g w w':=by
 obtain⟨f,l⟩:=h.own;rcases l with ⟨_,P⟩|⟨g,cap,b,rfl,hB,q,r,m,d,a⟩
 . omega
 obtain⟨C,hC,c⟩:=h.all g rfl;rw[q] at hC;injection hC with hC
 injection hC with hC _ _
 subst hC;rw[Nat.mul_one] at d a f;refine(Qvm g 0 cap i j n b w q rfl c r d m (by omega) (by omega)).mono ?_;rintro e w' ⟨rfl,rfl⟩;have G:i+(n - j)=n - 1:=by omega
 have H:n - (n - 1)=1:=by omega
 simp only[Nat.zero_add,Nat.mul_one,G,H,a];obtain⟨I,J⟩:=SB.cells (t:=93) (g:=g) (xs.drop j) i (w:=w.drew) (C:=b) q;obtain⟨A,K⟩:=SB.cells (List.replicate 1 (.slice none 0 0)) (n - 1) I;have s:(xs.drop j).length=n - j:=by simp;omega
 have x:(layCells (layCells b i (xs.drop j)) (n - 1) (List.replicate 1 (.slice none 0 0))).size=cap:=by rw[Qdj,Qdj];exact d
 have o:∀k,(layCells (layCells b i (xs.drop j)) (n - 1) (List.replicate 1 (.slice none 0 0)))[k]?=if n - 1<=k/\k<n - 1+1 then (List.replicate 1 (Value.slice none 0 0))[k - (n - 1)]? else if i<=k/\k<i+(n - j) then (xs.drop j)[k - i]? else b[k]?:=fun k=>by
  rw[Qg5 _ _ _ _ (by rw[Qdj];simp;omega),Qg5 _ _ _ _ (by omega),s];simp
 have y:∀k,k<n->b[k]?=xs[k]?:=fun k hk=>by rw[<-a,List.getElem?_take_of_lt hk,Array.getElem?_toList]
 refine⟨g,_,rfl,rfl,rfl,⟨⟨?_,.inr ⟨g,cap,_,rfl,hB,A,by omega,m,by rw[Nat.mul_one];exact x,?_⟩⟩,fun L z=>?_⟩,?_⟩
 . rw[List.length_eraseIdx,if_pos (by omega),Nat.mul_one];omega
 .
  rw[Nat.mul_one];apply List.ext_getElem?;intro k;by_cases hk:k<n - 1
  .
   rw[List.getElem?_take_of_lt hk,Array.getElem?_toList,o k,if_neg (by omega),List.getElem?_eraseIdx];by_cases D:k<i
   . rw[if_neg (by omega),if_pos D]
     exact y k (by omega)
   .
    rw[if_pos (by omega),if_neg D,List.getElem?_drop]
    congr 1
    omega
  . rw[List.getElem?_eq_none (by rw[List.length_take];omega),List.getElem?_eq_none (by rw[List.length_eraseIdx,if_pos (by omega)];omega)]
 .
  have M:g=L:=by simpa [Value.ownBlock] using z
  subst M;refine⟨_,A,fun u N=>?_⟩;obtain⟨k,hk⟩:=List.mem_iff_getElem?.1 N;rw[Array.getElem?_toList,o k] at hk
  split at hk
  . obtain rfl:=List.eq_of_mem_replicate (mO hk)
    exact⟨_,_,_,rfl⟩
  .
   split at hk
   .
    have E:=List.mem_of_mem_drop (mO hk);rw[<-a] at E;exact c u (List.mem_of_mem_take E)
   . exact c u (mO (by rw[Array.getElem?_toList];exact hk))
 . have:=J.trans K
   exact⟨this.os,this.tape,this.output,this.size,this.block⟩
def IsI(u:Value):Prop:=∃n:Int,u=Value.int .i64 n
def headsV(hs:Vy):List Value:=hs.map fun h=>Value.int .i64 (h:Nat)
theorem Qlh:∀u,u∈ (Value.int .i64 0).cells.toList->IsI u:=fun u b=>by
 have e:(Value.int .i64 0).cells=#[.int .i64 0]:=by rfl
 rw[e] at b;obtain rfl:u=_:=by simpa using b
 exact⟨_,rfl⟩
theorem IsI.plain{C:Vw}(h:∀u,u∈ C.toList->IsI u):Plain C:=fun u b=>by
 obtain⟨n,rfl⟩:=h u b;exact⟨fun x=>by simp,fun m=>by simp⟩
theorem Qli:(prog.info? 3).map (fun i=>(i.zero,i.size,i.bytes))=some (some (.int .i64 0),1,8):=by kernel_rfl
theorem SB.unlike{w:Vz}{b d:Nat}{t e:Vr}{C f:Vw}(h:SB w b t C)(c:SB w d e f)(g:t≠e):b≠d:=by
 rintro rfl;unfold SB at h c;rw[h] at c;injection c with c
 injection c with _ c _
 exact g c
theorem Grow.sb{w:Vz}{B:Nat}{e:Vr}{sz:Nat}{K:Value->Prop}{v:Value}{n:Nat}{xs:Vv}(h:Grow w B e sz K v n xs){g:Nat}(b:v.ownBlock=some g):∃C,SB w g e C/\∀u,u∈ C.toList->K u:=h.all g b
theorem Grow.lt{w:Vz}{B:Nat}{e:Vr}{sz:Nat}{K:Value->Prop}{v:Value}{n:Nat}{xs:Vv}(h:Grow w B e sz K v n xs){g:Nat}(b:v.ownBlock=some g):B<=g/\g<w.heap.size:=h.own.lt g b
theorem Grow.below{w w':Vz}{B:Nat}{e:Vr}{sz:Nat}{K:Value->Prop}{v:Value}{n:Nat}{xs:Vv}(h:Grow w B e sz K v n xs)(b:Bl w w'):Grow w' B e sz K v n xs:=h.keep fun g c=>b.block g (h.lt c).2
theorem Grow.only{w w':Vz}{B:Nat}{e:Vr}{sz:Nat}{K:Value->Prop}{v:Value}{n:Nat}{xs:Vv}(h:Grow w B e sz K v n xs)(b:w.grownBy w' v.ownBlock)(d:∀C:Vw,(∀u,u∈ C.toList->K u)->Plain C):Fr w w':=by
 rcases ho:v.ownBlock with _|g
 . rw[ho] at b
   exact Fr.of_below ⟨b.os,b.tape,b.output,b.size,fun k hk=>b.block k hk (by simp)⟩
 .
  obtain⟨C,f,i⟩:=h.sb ho;rw[ho] at b;exact Fr.of_only ⟨b.os,b.tape,b.output,b.size,fun k hk c=>b.block k hk (by simpa using c)⟩ f (d C i)
structure SW (w u:Vz) (W K wide:Nat) (L S X:List MR) (hs:Vy) (lv sv hv b1 b2:Value):Prop where
 box:SB u (w.heap.size+1) 135 #[.int .i64 wide,b1,b2]
 res:SB u w.heap.size 135 #[.int .i64 0,.slice none 0 0,.slice none 0 0]
 left:Grow u w.heap.size 93 1 IsSl lv L.length (L.map MR.val)
 rows:Grow u w.heap.size 93 1 IsSl sv S.length (S.map MR.val)
 heads:Grow u w.heap.size 3 1 IsI hv hs.length (headsV hs)
 apart:∀g,lv.ownBlock=some g->sv.ownBlock≠some g
 okL:Oks u W K L
 okS:Oks u W K S
 okX:Oks u W K X
 base:Bl w u
 sl:IsSl b1/\IsSl b2
section
variable {w u:Vz} {W K wide:Nat} {L S X:List MR} {hs:Vy} {lv sv hv b1 b2:Value}
theorem SW.below{c:Vz}(h:SW w u W K wide L S X hs lv sv hv b1 b2)(b:Bl u c):SW w c W K wide L S X hs lv sv hv b1 b2:=
 ⟨h.box.below b h.box.lt,h.res.below b h.res.lt,h.left.below b,h.rows.below b,h.heads.below b,h.apart,h.okL.fr (Fr.of_below b),h.okS.fr (Fr.of_below b),h.okX.fr (Fr.of_below b),h.base.trans (b.mono h.base.size),h.sl⟩
theorem SW.alloc(h:SW w u W K wide L S X hs lv sv hv b1 b2)(o:Obj):SW w (u.alloc o) W K wide L S X hs lv sv hv b1 b2:=h.below (bR.alloc lZ _)
theorem SW.drew(h:SW w u W K wide L S X hs lv sv hv b1 b2):SW w u.drew W K wide L S X hs lv sv hv b1 b2:=h.below bR.drew
theorem row_stairs:93≠135:=by decide
theorem int_stairs:3≠135:=by decide
theorem int_row:3≠93:=by decide
theorem SW.left_only{e:Vz}{g:Nat}{f:List MR}{b:Value}(h:SW w u W K wide L S X hs lv sv hv b1 b2)(i:lv.ownBlock=some g)(j:b.ownBlock=some g)(c:Only g u e)(hl:Grow e w.heap.size 93 1 IsSl b f.length (f.map MR.val))(l:Oks e W K f):SW w e W K wide f S X hs b sv hv b1 b2:=by
 obtain⟨C,c1,c2⟩:=h.left.sb i;have d:=Fr.of_only c c1 (IsSl.plain c2);refine⟨h.box.only c (h.box.unlike c1 row_stairs.symm),h.res.only c (h.res.unlike c1 row_stairs.symm),hl,h.rows.keep fun k hk=>c.block k (h.rows.lt hk).2 ?_,h.heads.keep fun k hk=>c.block k (h.heads.lt hk).2 ?_,fun k hk=>?_,l,h.okS.fr d,h.okX.fr d,h.base.trans (c.below (h.left.lt i).1 h.base.size),h.sl⟩
 . rintro rfl
   exact h.apart k i hk
 . obtain⟨D,d1,_⟩:=h.heads.sb hk
   exact d1.unlike c1 int_row
 .
  rw[j] at hk;rw[<-hk];exact h.apart g i
theorem SW.app1{s:MR}{nb c:Nat}(h:SW w u W K wide L S X hs lv sv hv b1 b2)(z:u.cell? ⟨nb,0,none⟩=some s.val)(B:MOk u W K s)(T:S.length<=1000)(ty:Vr):
 ∃g q,(Builtin.append_ #[89,89] ty #[sv,.slice (some ⟨nb,0,none⟩) 1 c]).run prog u=.ok g q/\SW w q W K wide L (S++ [s]) X hs lv g hv b1 b2/\u.heap.size<=q.heap.size/\∀b i n,u.cell? ⟨b,i,none⟩=some (.int .i64 n)->q.cell? ⟨b,i,none⟩=some (.int .i64 n):=by
 obtain⟨U,O,F,G,hz2⟩:=info_parts Qcv;obtain⟨g,q,x,H,l,I⟩:=h.rows.app (P:=prog) (ty:=ty) underlying89 O F G hz2 rfl (by decide) Qlg ⟨nb,0,none⟩ 1 c [s.val] rfl (fun j v J=>by
  match j,J with
  |0,J=>
   obtain rfl:s.val=v:=by simpa using J
   rw[Qau]
   exact z) (fun v hv=>by obtain rfl:v=s.val:=by simpa using hv
                          rfl) (fun v hv=>by obtain rfl:v=s.val:=by simpa using hv
                                             exact⟨_,_,_,rfl⟩) (by omega) (by decide) h.base.size
 have m:=h.rows.only l (fun C=>IsSl.plain);have d:∀b,b<u.heap.size->sv.ownBlock≠some b->q.heap[b]?=u.heap[b]?:=fun b f p=>l.block b f (fun e=>p e.symm)
 have p:∀{b:Nat} {t:Vr} {C:Vw},SB u b t C->t≠93->sv.ownBlock≠some b:=fun {b t C} f M z=>by
  obtain⟨D,d1,_⟩:=h.rows.sb z;exact f.unlike d1 M rfl
 have A:∀{b:Nat} {t:Vr} {C:Vw},SB u b t C->t≠93->SB q b t C:=fun {b t C} f M=>by
  have R:=d b f.lt (p f M);unfold SB at f ⊢;rw[R];exact f
 have y:=h.base.grown l h.base.size (fun k hk=>(h.rows.lt hk).1);refine⟨g,q,x,⟨A h.box row_stairs.symm,A h.res row_stairs.symm,h.left.keep fun k hk=>d k (h.left.lt hk).2 (h.apart k hk),by rw[List.map_append,List.length_append];exact H,h.heads.keep fun k hk=>?_,fun k hk=>?_,h.okL.fr m,fun r x=>?_,h.okX.fr m,y,h.sl⟩,l.size,fun b i n f=>?_⟩
 . obtain⟨D,d1,_⟩:=h.heads.sb hk
   exact d k (h.heads.lt hk).2 (p d1 int_row)
 .
  rcases I with e|e
  . rw[e]
    exact h.apart k hk
  .
   rw[e];have:=(h.left.lt hk).2;intro N;injection N with N
   omega
 .
  rcases List.mem_append.1 x with x|x
  . exact(h.okS r x).fr m
  . obtain rfl:r=s:=by simpa using x
    exact B.fr m
 .
  refine(World.cell?_of_block (w:=u) (a:=⟨b,i,none⟩) (d b (World.block_lt_of_cell? _ _ f) fun z=>?_)).trans f;obtain⟨D,d1,d2⟩:=h.rows.sb z;rw[d1.cell] at f;obtain⟨_,_,_,e⟩:=d2 _ (mO (by rw[Array.getElem?_toList];exact f));cases e
theorem SW.app2{k nb c:Nat}(h:SW w u W K wide L S X hs lv sv hv b1 b2)(r:u.cell? ⟨nb,0,none⟩=some (.int .i64 (k:Nat)))(I:hs.length<=1000)(ty:Vr):
 ∃g p,(Builtin.append_ #[99,99] ty #[hv,.slice (some ⟨nb,0,none⟩) 1 c]).run prog u=.ok g p/\SW w p W K wide L S X (hs++ [k]) lv sv g b1 b2:=by
 obtain⟨J,B,s,x,hz2⟩:=info_parts Qli;obtain⟨g,p,F,y,l,G⟩:=h.heads.app (P:=prog) (ty:=ty) underlying99 B s x hz2 rfl (by decide) Qlh ⟨nb,0,none⟩ 1 c [.int .i64 (k:Nat)] rfl (fun j v z=>by
  match j,z with
  |0,z=>
   obtain rfl:_=v:=by simpa using z
   rw[Qau]
   exact r) (fun v hv=>by obtain rfl:v=_:=by simpa using hv
                          rfl) (fun v hv=>by obtain rfl:v=_:=by simpa using hv
                                             exact⟨_,rfl⟩) (by omega) (by decide) h.base.size
 have m:=h.heads.only l (fun C=>IsI.plain);have d:∀b,b<u.heap.size->hv.ownBlock≠some b->p.heap[b]?=u.heap[b]?:=fun b i f=>l.block b i (fun e=>f e.symm)
 have f:∀{b:Nat} {t:Vr} {C:Vw},SB u b t C->t≠3->hv.ownBlock≠some b:=fun {b t C} i A r=>by
  obtain⟨D,d1,_⟩:=h.heads.sb r;exact i.unlike d1 A rfl
 have q:∀{b:Nat} {t:Vr} {C:Vw},SB u b t C->t≠3->SB p b t C:=fun {b t C} i A=>by
  have H:=d b i.lt (f i A);unfold SB at i ⊢;rw[H];exact i
 have n:=h.base.grown l h.base.size (fun k hk=>(h.heads.lt hk).1);refine⟨g,p,F,⟨q h.box int_stairs.symm,q h.res int_stairs.symm,h.left.keep fun k hk=>?_,h.rows.keep fun k hk=>?_,?_,h.apart,h.okL.fr m,h.okS.fr m,h.okX.fr m,n,h.sl⟩⟩
 . obtain⟨D,d1,_⟩:=h.left.sb hk
   exact d k (h.left.lt hk).2 (f d1 int_row.symm)
 . obtain⟨D,d1,_⟩:=h.rows.sb hk
   exact d k (h.rows.lt hk).2 (f d1 int_row.symm)
 .
  have e:headsV (hs++ [k])=headsV hs++ [.int .i64 (k:Nat)]:=by simp[headsV]
  rw[e,List.length_append];exact y
theorem SW.put(h:SW w u W K wide L S X hs lv sv hv b1 b2):SW w ((u.setCell ⟨w.heap.size+1,1,none⟩ sv).setCell ⟨w.heap.size+1,2,none⟩ hv) W K wide L S X hs lv sv hv sv hv:=by
 have i:Only (w.heap.size+1) u ((u.setCell ⟨w.heap.size+1,1,none⟩ sv).setCell ⟨w.heap.size+1,2,none⟩ hv):=((Only.refl _ _).setCell _ _).setCell _ _;have f:∀{B:Nat} {e:Vr} {sz:Nat} {Q:Value->Prop} {v:Value} {n:Nat} {xs:Vv},Grow u B e sz Q v n xs->∃x y z,v=Value.slice x y z:=fun {B e sz Q v n xs} b=>by
  rcases b.own.2 with ⟨rfl,_⟩|⟨g,cap,m,rfl,_⟩
  . exact⟨_,_,_,rfl⟩
  . exact⟨_,_,_,rfl⟩
 have c:∀{B:Nat} {e:Vr} {sz:Nat} {Q:Value->Prop} {v:Value} {n:Nat} {xs:Vv},e≠135->Grow u B e sz Q v n xs->Grow ((u.setCell ⟨w.heap.size+1,1,none⟩ sv).setCell ⟨w.heap.size+1,2,none⟩ hv) B e sz Q v n xs:=fun {B e sz Q v n xs} p b=>b.keep fun k hk=>i.block k (b.lt hk).2 (by
  obtain⟨D,d1,_⟩:=b.sb hk
  exact d1.unlike h.box p)
 have j:=(h.box.set 1 sv).set 2 hv;have l:Plain #[.int .i64 (wide:Int),b1,b2]:=fun v hv=>by
  obtain⟨x1,x2,x3,q⟩:=h.sl.1;obtain⟨y1,y2,y3,r⟩:=h.sl.2;subst q;subst r;simp at hv;rcases hv with rfl|rfl|rfl
  . exact⟨by simp,by simp⟩
  . exact⟨by simp,by simp⟩
  . exact⟨by simp,by simp⟩
 have d:=Fr.of_only i h.box l;exact⟨by simpa using j,h.res.only i (by omega),c row_stairs h.left,c row_stairs h.rows,c int_stairs h.heads,h.apart,h.okL.fr d,h.okS.fr d,h.okX.fr d,h.base.trans (i.below (Nat.le_succ _) h.base.size),f h.rows,f h.heads⟩
end
theorem Grow.mono{w:Vz}{B c:Nat}{e:Vr}{sz:Nat}{K:Value->Prop}{v:Value}{n:Nat}{xs:Vv}(h:Grow w B e sz K v n xs)(hB:c<=B):Grow w c e sz K v n xs:=by
 refine⟨⟨h.own.1,?_⟩,h.all⟩;rcases h.own.2 with d|⟨g,cap,b,rfl,f,i⟩
 . exact .inl d
 . exact .inr ⟨g,cap,b,rfl,Nat.le_trans hB f,i⟩
theorem Grow.slice{w:Vz}{B sz:Nat}{e:Vr}{K:Value->Prop}{v:Value}{n:Nat}{xs:Vv}(h:Grow w B e sz K v n xs):
 ∃a cap,v=.slice a n cap/\n<=cap/\CRow w a xs/\(0<n->∃g,a=some ⟨g,0,none⟩/\v.ownBlock=some g):=by
 rcases h.own.2 with ⟨rfl,rfl⟩|⟨g,cap,f,rfl,m,i,b,k,l,c⟩
 .
  have:=List.eq_nil_of_length_eq_zero (by simpa using h.own.1);subst this;exact⟨none,0,rfl,Nat.le_refl _,⟨fun j u d=>by simp at d⟩,fun h=>by omega⟩
 .
  refine⟨some ⟨g,0,none⟩,cap,rfl,b,⟨fun j u d=>⟨g,0,rfl,SB.lt i,?_⟩⟩,fun _=>⟨g,rfl,rfl⟩⟩;have:=h.own.cells (g:=g) rfl j u d;rw[Qau] at this;exact this
theorem Grow.mat{w:Vz}{B W K:Nat}{v:Value}{L:List MR}(h:Grow w B 93 1 IsSl v L.length (L.map MR.val))(b:Oks w W K L):
 ∃a cap,v=.slice a L.length cap/\QMat w a cap W L/\(0<L.length->∃g,a=some ⟨g,0,none⟩):=by
 obtain⟨a,cap,e,d,c,f⟩:=h.slice;refine⟨a,cap,e,⟨⟨d,by rw[Qes];exact c⟩,fun r c=>⟨(b r c).row,(b r c).len⟩⟩,fun i=>?_⟩;obtain⟨g,j,_⟩:=f i;exact⟨g,j⟩
theorem Grow.set{w:Vz}{B g cap:Nat}{e:Vr}{K:Value->Prop}{n k:Nat}{xs:Vv}{x:Value}(h:Grow w B e 1 K (.slice (some ⟨g,0,none⟩) n cap) n xs)(hk:k<n)(v:K x):Grow (w.setCell ⟨g,k,none⟩ x) B e 1 K (.slice (some ⟨g,0,none⟩) n cap) n (xs.set k x):=by
 obtain⟨d,f⟩:=h.own;rcases f with ⟨b,_⟩|⟨s,cap',y,b,z,t,m,p,q,c⟩
 . cases b
 .
  injection b with b _ A
  injection b with b
  injection b with b _ _
  subst b;subst A;obtain⟨C,hC,i⟩:=h.all g rfl;rw[t] at hC;injection hC with hC
  injection hC with hC _ _
  subst hC;have j:=SB.set t k x;refine⟨⟨by rw[List.length_set];exact d,.inr ⟨g,cap,_,rfl,z,j,m,p,by simpa using q,?_⟩⟩,fun s r=>?_⟩
  . rw[Array.toList_setIfInBounds,List.take_set,c]
  .
   have e:g=s:=by simpa [Value.ownBlock] using r
   subst e;refine⟨_,j,fun u l=>?_⟩;rw[Array.toList_setIfInBounds] at l;rcases List.mem_or_eq_of_mem_set l with l|rfl
   . exact i u l
   . exact v
theorem Grow.free{w:Vz}{B g cap l:Nat}{e:Vr}{K:Value->Prop}{n:Nat}{xs:Vv}(h:Grow w B e 1 K (.slice (some ⟨g,0,none⟩) l cap) n xs)(k:Nat):w.frozen? ⟨g,k,none⟩=false:=by
 obtain⟨C,hC,_⟩:=h.sb (g:=g) rfl;exact hC.free k
theorem Grow.cell{w:Vz}{B g cap l:Nat}{e:Vr}{K:Value->Prop}{n k:Nat}{xs:Vv}{x:Value}(h:Grow w B e 1 K (.slice (some ⟨g,0,none⟩) l cap) n xs)(hk:xs[k]?=some x):w.cell? ⟨g,k,none⟩=some x:=by
 have:=h.own.cells (g:=g) rfl k x hk;rw[Qau,Nat.zero_add] at this;exact this
theorem SW.setL{w u:Vz}{W K wide g cap m n:Nat}{L S X:List MR}{hs:Vy}{sv hv b1 b2:Value}{r:MR}(h:SW w u W K wide L S X hs (.slice (some ⟨g,0,none⟩) n cap) sv hv b1 b2)(e:n=L.length)(f:m<L.length)(i:MOk u W K r):SW w (u.setCell ⟨g,m,none⟩ r.val) W K wide (L.set m r) S X hs (.slice (some ⟨g,0,none⟩) n cap) sv hv b1 b2:=by
 subst e;have d:Only g u (u.setCell ⟨g,m,none⟩ r.val):=(Only.refl _ _).setCell _ _;obtain⟨C,c1,c2⟩:=h.left.sb (g:=g) rfl;have b:=Fr.of_only d c1 (IsSl.plain c2);refine h.left_only rfl rfl d ?_ fun x c=>?_
 . rw[List.length_set,List.map_set]
   exact h.left.set f ⟨_,_,_,rfl⟩
 .
  rcases List.mem_or_eq_of_mem_set c with c|rfl
  . exact(h.okL x c).fr b
  . exact i.fr b
theorem Qg6{α β:Type}(f:α->β):∀(l:List α) (i:Nat),(l.map f).eraseIdx i=(l.eraseIdx i).map f
 | [],_=>rfl
 |_ :: _,0=>rfl
 |x :: l,i+1=>by simp only[List.map_cons,List.eraseIdx_cons_succ];rw[Qg6 f l i]
theorem Grow.form{w:Vz}{B sz:Nat}{e:Vr}{K:Value->Prop}{v:Value}{n:Nat}{xs:Vv}(h:Grow w B e sz K v n xs){g:Nat}(b:v.ownBlock=some g):∃cap,v=.slice (some ⟨g,0,none⟩) n cap:=by
 rcases h.own.2 with ⟨rfl,_⟩|⟨c,cap,d,rfl,_⟩
 . simp[Value.ownBlock] at b
 . obtain rfl:c=g:=by simpa [Value.ownBlock] using b
   exact⟨cap,rfl⟩
section
variable {w u:Vz} {W K wide:Nat} {L S X:List MR} {hs:Vy} {lv sv hv b1 b2:Value}
theorem SW.erase{i:Vz}{g j:Nat}{f:Value}(h:SW w u W K wide L S X hs lv sv hv b1 b2)(l:lv.ownBlock=some g)(c:f.ownBlock=some g)(m:Only g u i)(d:Grow i w.heap.size 93 1 IsSl f (L.length - 1) ((L.map MR.val).eraseIdx j))(n:j<L.length):
 ∃cap,f=.slice (some ⟨g,0,none⟩) (L.eraseIdx j).length cap/\SW w i W K wide (L.eraseIdx j) S X hs f sv hv b1 b2:=by
 have b:(L.eraseIdx j).length=L.length - 1:=by rw[List.length_eraseIdx,if_pos n]
 obtain⟨cap,e⟩:=d.form c;obtain⟨C,c1,c2⟩:=h.left.sb l;have k:=Fr.of_only m c1 (IsSl.plain c2);refine⟨cap,by rw[b];exact e,h.left_only l c m ?_ fun r p=>(h.okL r (List.mem_of_mem_eraseIdx p)).fr k⟩;rw[b,<-Qg6];exact d
theorem SW.withX{Y:List MR}(h:SW w u W K wide L S X hs lv sv hv b1 b2)(b:Oks u W K Y):SW w u W K wide L S Y hs lv sv hv b1 b2:=⟨h.box,h.res,h.left,h.rows,h.heads,h.apart,h.okL,h.okS,b,h.base,h.sl⟩
variable {P:Program} {ops:Array Oper} {o:Oper} {a:Act} {K':Act->World->Prop} {Q:Exit->Act->World->Prop} {E:Prop}
end
theorem Grow.frac_ne{w:Vz}{B sz:Nat}{e:Vr}{v:Value}{n:Nat}{xs:Vv}(h:Grow w B e sz IsSl v n xs){g b i:Nat}{x y z:Value}{q:Rat}(p:v.ownBlock=some g)(f:w.cell? ⟨b,i,none⟩=some x)(r:FracV w (.agg #[x,y,z]) q):g≠b:=by
 rintro rfl;obtain⟨C,c1,c2⟩:=h.sb p;rw[c1.cell] at f;obtain⟨_,_,_,j⟩:=c2 x (mO (by rw[Array.getElem?_toList];exact f));obtain⟨neg,a,m,c,b,k,d,l,_⟩:=r;simp at l;rw[l.1] at j;cases j
theorem SW.done{w u:Vz}{W K wide:Nat}{L S X:List MR}{hs:Vy}{lv sv hv b1 b2:Value}(h:SW w u W K wide L S X hs lv sv hv b1 b2)(x y z:Value):
 Grow (((u.setCell ⟨w.heap.size,0,none⟩ x).setCell ⟨w.heap.size,1,none⟩ y).setCell ⟨w.heap.size,2,none⟩ z) w.heap.size 93 1 IsSl sv S.length (S.map MR.val)/\Grow (((u.setCell ⟨w.heap.size,0,none⟩ x).setCell ⟨w.heap.size,1,none⟩ y).setCell ⟨w.heap.size,2,none⟩ z) w.heap.size 3 1 IsI hv hs.length (headsV hs)/\
  Oks (((u.setCell ⟨w.heap.size,0,none⟩ x).setCell ⟨w.heap.size,1,none⟩ y).setCell ⟨w.heap.size,2,none⟩ z) W K S/\Below w.heap.size w (((u.setCell ⟨w.heap.size,0,none⟩ x).setCell ⟨w.heap.size,1,none⟩ y).setCell ⟨w.heap.size,2,none⟩ z):=by
 have b:Only w.heap.size u (((u.setCell ⟨w.heap.size,0,none⟩ x).setCell ⟨w.heap.size,1,none⟩ y).setCell ⟨w.heap.size,2,none⟩ z):=(((Only.refl _ _).setCell _ _).setCell _ _).setCell _ _;have c:Plain #[.int .i64 0,.slice none 0 0,.slice none 0 0]:=fun v hv=>by
  simp at hv;rcases hv with rfl|rfl
  . exact⟨by simp,by simp⟩
  . exact⟨by simp,by simp⟩
 refine⟨h.rows.keep fun k hk=>b.block k (h.rows.lt hk).2 ?_,h.heads.keep fun k hk=>b.block k (h.heads.lt hk).2 ?_,h.okS.fr (Fr.of_only b h.res c),h.base.trans (b.below lZ h.base.size)⟩
 . obtain⟨D,d1,_⟩:=h.rows.sb hk
   exact d1.unlike h.res row_stairs
 . obtain⟨D,d1,_⟩:=h.heads.sb hk
   exact d1.unlike h.res int_stairs
structure Going (K:Nat) (I:Nat->List Vec->List Vec->List Nat->Prop):Prop where
 fit:∀{c:Nat} {L S:List Vec} {hs:Vy},I c L S hs->∀r,r∈ L->∀i,Fits (r i) K
 skip:∀{c:Nat} {L S:List Vec} {hs:Vy},I c L S hs->(∀r,r∈ L->r c=0)->I (c+1) L S hs
 step:∀{c j:Nat} {L S:List Vec} {hs:Vy} {s:Vec},I c L S hs->L[j]?=some s->s c≠0->I (c+1) ((L.eraseIdx j).map (lessBy c s)) (S++ [s]) (hs++ [c])
theorem Qvo{c:Nat}{s r:Vec}(h:r c=0):lessBy c s r=r:=by
 funext i;unfold lessBy;rw[h];grind
end Go.Proofs.YtppkmifkpjkgpaaGreatDoor
