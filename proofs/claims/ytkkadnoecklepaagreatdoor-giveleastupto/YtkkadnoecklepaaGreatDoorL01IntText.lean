import Derived.Test.YtkkadnoecklepaaGreatDoorL00BigDivL1
import Derived.Deep.RegionHeld3
import Derived.Deep.AppendLies
import Derived.Laws.BytesArg
namespace Go.Proofs.YtkkadnoecklepaaGreatDoor
open Go.RowKit
open Go.Proofs.Tryz
set_option linter.unusedSimpArgs false
set_option linter.unusedVariables false
set_option maxHeartbeats 8000000
set_option maxRecDepth 1000000
theorem Blk.setRow{k:IntKind}{t:Vr}{w:Vz}{g:Nat}{l:Vy}(h:Blk k t w g l)(m:Vy):Blk k t (w.setRow g (wordCells k m)) g m:=setRow_heap w g _ _ t _ h
theorem Qn2(X V n M k:Nat)(b v:Vy)(c:Num 4294967296 b X)(d:X<4294967296 ^ (M+n+2))(e:Num 4294967296 v V)(a:v.length=n+2)(hk:b.length+k=M+n+3):
 DivInv X V n M (M+1) (b++zeros k) (zeros (M+1)):=by
 refine⟨by rw[List.length_append,Qag];exact hk,Qag _,c.small.append (Qam _ _ (by decide)),Qam _ _ (by decide),?_,?_⟩
 . rw[Qcy,Qeh,c.eq,List.drop_of_length_le (by rw[Qag];exact Nat.le_refl _),Qcx,Nat.mul_zero,Nat.mul_zero]
   rfl
 .
  rw[Qcy,Qeh,c.eq,Nat.mul_zero,Nat.add_zero];have f:=e.trim.pow_le (B:=4294967296) (by rw[a];exact Nat.succ_pos _);rw[e.eq,a] at f;have g:=Nat.mul_le_mul_left (4294967296 ^ (M+1)) f;rw[<-Nat.pow_add,show M+1+(n+2 - 1)=M+n+2 from by omega] at g;exact Nat.lt_of_lt_of_le d g
theorem Qn3(w:Vz)(g n f bx d:Nat)(a:Vy)(hB:Blk .u32 233 w g (zeros n))(l:Row .u32 w (some ⟨bx,d,none⟩) f a)(m:a.length<=n):
 Sem.run prog (Builtin.copy_ #[119,119] 3 #[.slice (some ⟨g,0,none⟩) n n,.slice (some ⟨bx,d,none⟩) a.length f]) w=.ok (.int .i64 a.length) (w.setRow g (wordCells .u32 (a++zeros (n - a.length)))):=by
 have h:=run_copy_row (P:=prog) w 119 119 3 233 g 0 n n ⟨bx,d,none⟩ a.length f (wordCells .u32 (zeros n)) 233 (a.map (fun n:Nat=>Value.int .u32 n)) underlying119 (by kernel_rfl) hB
  (by rw[List.length_map];exact(Nat.min_eq_left m).symm) ?_ (by simp[wordCells,Qag];omega) ?_
 .
  have e:(List.take 0 (wordCells .u32 (zeros n)).toList++a.map (fun n:Nat=>Value.int .u32 n)++List.drop (0+(a.map (fun n:Nat=>Value.int .u32 n)).length) (wordCells .u32 (zeros n)).toList).toArray=wordCells .u32 (a++zeros (n - a.length)):=by
   unfold wordCells zeros;simp
  rw[e] at h;rw[List.length_map] at h;exact h
 .
  intro j u o;obtain⟨i,k⟩:=gZ o;have b:j<a.length:=by simpa using i
  obtain⟨p,c,q,_,r⟩:=l.cell j b;obtain⟨rfl,rfl⟩:bx=p/\d=c:=by simpa using q
  rw[Qas,r,<-k];simp[b]
 . intro u k;obtain⟨n,_,rfl⟩:=List.mem_map.1 k;rfl
theorem Qn4(a1 Y:Vx)(c1 c2:Nat)(l m:Vy)(x y:Nat)(w:Vz)(k:U32 w a1 c1 l x)(g:U32 w Y c2 m y)(hy:0<y)(ay:y<=x)(hl:2<l.length)(hm:1<m.length)(bk:l.length<1099511627770):
 Calls prog 203 #[.slice a1 l.length c1,.slice Y m.length c2] w (DivOk w x y):=by
 have s2:=g.short;have bl:m.length<=l.length:=by
  apply bC;intro hc;have:=Qat (B:=4294967296) (by omega) k.num.small g.num.trim (by omega);rw[k.num.eq,g.num.eq] at this;omega
 have q1:((m.length:Int) == 0)=false:=by rw[beq_eq_false_iff_ne];omega
 have q2:((m.length:Int) == 1)=false:=by rw[beq_eq_false_iff_ne];omega
 have hc:¬cmp3 x y<0:=by rw[Qau];omega
 have az:=Num.nb_le (q:=32) g.num;obtain⟨z,hz⟩:=nm (nb y);have bm:1<=z:=by rw[<-hz];exact Qdw hy
 obtain⟨s,hs⟩:=nm (31 - (z - 1) % 32);have c:s<32:=by omega
 have a0:32 - ((z:Int) - 1) % 32 - 1=(s:Int):=by omega
 rw[hz] at az;have HZ:O (nb y=z):=hz;clear hz hs;go_enter func203,ntmps203;go_wp2_with fail;refine(Qbf a1 Y c1 c2 l m x y w k g).mono ?_;rintro e w1 ⟨rfl,U⟩;replace k:=k.below U;replace g:=g.below U;go_wp2_with fail;refine(Qn8 Y c2 m y w1 g).mono ?_;rintro e w2 ⟨rfl,rfl⟩;rw[HZ.o];clear hc;go_wp2_with fail;refine(Qhs Y c2 s m y w2 g c (by omega) (by omega)).mono ?_;rintro e b ⟨⟨av,cv,v,rfl,d⟩,r⟩;replace k:=k.below r;have Z:=Qfj c;have E:0<2 ^ s:=Nat.pow_pos (by omega);obtain⟨V,hV⟩:=nm (y*2 ^ s);obtain⟨X,hX⟩:=nm (x*2 ^ s);rw[hV] at d;have a3:y<=V:=by rw[<-hV];exact Nat.le_mul_of_pos_right _ E
 have bn:V<=X:=by rw[<-hV,<-hX];exact Nat.mul_le_mul_right _ ay
 have aa:X<4294967296 ^ (l.length+1):=by
  have a:=Qab (B:=4294967296) (by omega) k.num.small;rw[k.num.eq] at a;rw[<-hX,Nat.pow_succ];exact Nat.mul_lt_mul'' a (by omega)
 have ab:2<=v.length:=by
  apply bC;intro hn;have a:=Qab (B:=4294967296) (by omega) d.num.small;have t:=Qcf (B:=4294967296) (by omega) (show v.length<=1 by omega);have e3:=g.num.trim.pow_le (B:=4294967296) (by omega);have e4:=Qcf (B:=4294967296) (by omega) (show 1<=m.length - 1 by omega);rw[d.num.eq] at a;rw[g.num.eq] at e3;omega
 have ad:v.length<=l.length+1:=d.num.length_le_of_lt (by omega) (by omega);have HV:O (y*2 ^ s=V):=hV;have HX:O (x*2 ^ s=X):=hX;have ae:O (X<4294967296 ^ (l.length+1)):=aa;clear hV hX aa Z E a3;have a4:∀w,(Instr.makeSlice 119 (.int .i64 ((l.length:Int)+2)) (.int .i64 ((l.length:Int)+2))).run prog w=.ok (.slice (some ⟨w.heap.size,0,none⟩) (l.length+2) (l.length+2)) (w.alloc (.cells (wordCells .u32 (zeros (l.length+2))) 233)):=
  fun w=>Qa5 _ (l.length+2) (by omega) (by omega) w
 go_wp2_with fail;have K:Bl b (b.alloc (.cells (wordCells .u32 (zeros (l.length+2))) 233)):=bR.alloc lZ _;refine(Qhs a1 c1 s l x _ (k.below K) c (by omega) (by omega)).mono ?_;rintro e F ⟨⟨ax,cx,f,rfl,L⟩,N⟩;clear a4;rw[HX.o] at L;have bh:=L.num.length_le_of_lt (by omega) ae.o;have af:0<f.length:=by
  have:=(L.num.len_zero (by omega)).2;have:=HV.o;have:0<y*2 ^ s:=Nat.mul_pos hy (Nat.pow_pos (by omega));omega
 have u:=(Blk.new .u32 233 b _).below N (by simp);have G:=K.trans (N.mono (by simp));have bo:=G.size;have ag:=u.lt;clear K N;obtain⟨bx,ox,a5,bp,a6⟩:=L.row.cell 0 af;subst a5;have a7:=Qn3 F b.heap.size (l.length+2) cx bx ox f u L.row (by omega);clear a6;obtain⟨n,hn⟩:∃n,v.length=n+2:=⟨v.length - 2,by omega⟩;have W:O (v.length=n+2):=hn;rw[hn];rw[hn] at ab ad;clear hn;obtain⟨M,hM⟩:∃M,l.length=M+n+1:=⟨l.length - 1 - n,by omega⟩;have HM:O (l.length=M+n+1):=hM;have ah:∀w,(Instr.makeSlice 119 (.int .i64 ((l.length:Int)+2 - ((n:Int)+2))) (.int .i64 ((l.length:Int)+2 - ((n:Int)+2)))).run prog w=.ok (.slice (some ⟨w.heap.size,0,none⟩) (M+1) (M+1)) (w.alloc (.cells (wordCells .u32 (zeros (M+1))) 233)):=
  fun w=>Qa5 _ (M+1) (by omega) (by omega) w
 clear hM;go_wp2_with fail;clear a7 ah;generalize hW0:(F.setRow b.heap.size (wordCells .u32 (f++zeros (l.length+2 - f.length)))).alloc (.cells (wordCells .u32 (zeros (M+1))) 233)=W0 at*;have P:(F.setRow b.heap.size (wordCells .u32 (f++zeros (l.length+2 - f.length)))).heap.size=F.heap.size:=by simp[World.setRow]
 have H:Blk .u32 233 W0 b.heap.size (f++zeros (l.length+2 - f.length)):=by
  rw[<-hW0];exact(u.setRow _).alloc _
 have I:Blk .u32 233 W0 F.heap.size (zeros (M+1)):=by
  rw[<-hW0,<-P];exact Blk.new _ _ _ _
 have A:Bl b W0:=by
  rw[<-hW0];exact(below_setRow G lZ _).alloc (by rw[P];omega) _
 clear hW0 P u;obtain⟨Q,R,a8,S,_⟩:=d.row.cell 0 (by have:=W.o;omega);subst a8;have C:∀i,i<n+2->b.cell? ⟨Q,R+i,none⟩=some (.int .u32 ((v.getD i 0:Nat):Int)):=by
  intro i hi;obtain⟨b',o',a,_,t⟩:=d.row.cell i (by have:=W.o;omega);obtain⟨rfl,rfl⟩:Q=b'/\R=o':=by simpa using a
  exact t
 obtain⟨v1,h⟩:=nm (v.getD (n+1) 0);obtain⟨v0,D⟩:=nm (v.getD n 0);have bi:v1<4294967296:=by rw[<-h];exact d.num.small.getD (by omega) _
 have bj:v0<4294967296:=by rw[<-D];exact d.num.small.getD (by omega) _
 have ai:1<=v1:=by
  have a:=d.num.trim;have t:=W.o;rcases a with a|a
  . rw[a] at t;simp at t
  . rw[t] at a;rw[<-h];simp only[Nat.add_one_sub_one] at a;omega
 have g1:=(A.cell (p:=⟨Q,R+(n+1),none⟩) S).trans (C (n+1) (by omega));have g2:=(A.cell (p:=⟨Q,R+n,none⟩) S).trans (C n (by omega));rw[h] at g1;rw[D] at g2;have a9:O (∀i,i<n+2->b.cell? ⟨Q,R+i,none⟩=some (.int .u32 ((v.getD i 0:Nat):Int))):=C;have ba:O (v.getD (n+1) 0=v1):=h;have bb:O (v.getD n 0=v0):=D;clear C h D;go_region
 all_goals
  go_wp2
 clear g1 g2;have bc:V<4294967296 ^ (n+2):=by
  have a:=Qab (B:=4294967296) (by omega) d.num.small;rw[d.num.eq,W.o] at a;exact a
 have bq:0<V:=by rw[<-HV.o];exact Nat.mul_pos hy (Nat.pow_pos (by omega))
 have aj:DivInv X V n M (M+1) (f++zeros (l.length+2 - f.length)) (zeros (M+1)):=
  Qn2 X V n M _ f v L.num (by rw[show M+n+2=l.length+1 from by have:=HM.o;omega];exact ae.o) d.num W.o (by have:=HM.o;omega)
 have ak:DivMem b W0 Q R b.heap.size F.heap.size n (l.length+2) v (f++zeros (l.length+2 - f.length)) (zeros (M+1)):=
  ⟨A,S,a9.o,d.num.small,H,I,ag,by rw[List.length_append,Qag];omega,L.num.small.append (Qam _ _ (by omega))⟩
 obtain⟨al,am⟩:=Ia ak aj;clear aj bc H I A a0 ak;rw[show (l.length:Int)+2 - ((n:Int)+2) - 1=((M+1:Nat):Int) - 1 from by have:=HM.o;omega];refine wp_loop_rounds (M+1+1) ?_;refine(Qns _ b Q R cv b.heap.size F.heap.size n M (l.length+2) v1 v0 X V v _ (by have:=HM.o;omega) (by omega) d.num W.o ba.o bb.o ai ?hex (M+1)) _ _ _ lZ al.o.drew am.o
 case hex=>
  intro us qs
  iterate 270 intro
  intro wr hm hI;have T:val 4294967296 qs=x / y/\val 4294967296 us / 2 ^ s=x % y:=by
   have a:=hI.eq;have t:=hI.lt;rw[Nat.pow_zero,Nat.one_mul] at a t;rw[List.drop_zero] at a;exact Qgb (Nat.pow_pos (by decide)) HX.o HV.o a t
  obtain⟨bd,an⟩:=T;obtain⟨be,ao,j⟩:=Ib an hI hm;clear an hI hm al am;go_wp2_with fail;refine(Qa0 F.heap.size (M+1) (M+1) (x / y) qs wr j.o.qb ao.o.qlen ao.o.qsmall lZ (by have:=HM.o;omega) bd).mono ?_;rintro e w5 ⟨⟨aq,cq,rq,rfl,bf⟩,rfl⟩;go_wp2_with fail;refine(Qa0 b.heap.size (l.length+2) (l.length+2) _ us w5 j.o.ub j.o.ul j.o.usmall lZ (by omega) rfl).mono ?_;rintro e w6 ⟨⟨au,cu,ru,rfl,bg⟩,rfl⟩;go_wp2_with fail;refine(Qn9 au cu s ru _ w6 bg c).mono ?_;rintro e w7 ⟨⟨ar,cr,rr,rfl,ap⟩,aw⟩;go_wp2;go_ret2;rw[be.o] at ap;refine⟨⟨aq,cq,rq,ar,cr,rr,rfl,bf.below aw,ap⟩,?_⟩;have J:=j.o.below;exact U.trans ((r.mono U.size).trans ((J.mono (Nat.le_trans U.size r.size)).trans (aw.mono (Nat.le_trans U.size (Nat.le_trans r.size J.size)))))
theorem Qbg(a b:Vx)(c1 c2:Nat)(l m:Vy)(x y:Nat)(w:Vz)(d:U32 w a c1 l x)(c:U32 w b c2 m y)(e:0<y)(f:l.length<1099511627770):
 Calls prog 203 #[.slice a l.length c1,.slice b m.length c2] w (DivOk w x y):=by
 by_cases g:x<y
 . exact Qnn a b c1 c2 l m x y w d c g
 by_cases hl:l.length<=2
 . exact Qno a b c1 c2 l m x y w d c e (by omega) hl
 by_cases h:m.length=1
 . exact Qnp a b c1 c2 l m x y w d c e (by omega) (by omega) h
 .
  have i:m.length≠0:=by
   intro j;have:=(c.num.len_zero (by decide)).2 j;omega
  exact Qn4 a b c1 c2 l m x y w d c e (by omega) (by omega) (by omega) f
theorem Qca(p q:Nat):Nat.gcd q (p % q)=Nat.gcd p q:=by
 rw[Nat.gcd_comm q,<-Nat.gcd_rec,Nat.gcd_comm]
theorem U32.len_mono{w w':Vz}{a b:Vx}{c d:Nat}{l m:Vy}{x y:Nat}(h:U32 w a c l x)(k:U32 w' b d m y)(e:x<=y):l.length<=m.length:=
 h.num.length_le_of_lt (by decide) (Nat.lt_of_le_of_lt e (by have:=Qab (B:=4294967296) (by decide) k.num.small;rw[k.num.eq] at this;exact this))
def ComExit(Qx:Exit->Act->World->Prop)(w0:Vz)(g B:Nat):Prop:=
 ∀(p q:Nat) (a b:Vx) (c d:Nat) (l m:Vy) {s2 s3 s4 s5 s6 s7 s8 s9 s10 s11 s12 s13 s14 s15 s16 s17 s18 s19 s20 s21 s22 s23 s24 s25 s26 s27 s28 s29 s30 s31 s32 s33 s34 s35 s36 s37 s38 s39 s40 s41 s42 s43 s44 s45 s46 s47 s48:Value} (wr:Vz),U32 wr a c l p->U32 wr b d m q->l.length<=B->m.length<=2->Nat.gcd p q=g->Below w0.heap.size w0 wr->
  Qx (.exit 0) ⟨#[.slice a l.length c,.slice b m.length d,s2,s3,s4,s5,s6,s7,s8,s9,s10,s11,s12,s13,s14,s15,s16,s17,s18,s19,s20,s21,s22,s23,s24,s25,s26,s27,s28,s29,s30,s31,s32,s33,s34,s35,s36,s37,s38,s39,s40,s41,s42,s43,s44,s45,s46,s47,s48],[]⟩ wr
def ComAt(Qx:Exit->Act->World->Prop)(w0:Vz)(g B t:Nat):Prop:=
 ∀(p q:Nat) (a b:Vx) (c d:Nat) (l m:Vy) {s2 s3 s4 s5 s6 s7 s8 s9 s10 s11 s12 s13 s14 s15 s16 s17 s18 s19 s20 s21 s22 s23 s24 s25 s26 s27 s28 s29 s30 s31 s32 s33 s34 s35 s36 s37 s38 s39 s40 s41 s42 s43 s44 s45 s46 s47 s48:Value} (wr:Vz),q<=t->U32 wr a c l p->U32 wr b d m q->l.length<=B->m.length<=B->Nat.gcd p q=g->Below w0.heap.size w0 wr->
  Code.rounds prog (((Tryz.f202.body.map loopsIn).getD []).getD 0 .skip) Qx (t+1) ⟨#[.slice a l.length c,.slice b m.length d,s2,s3,s4,s5,s6,s7,s8,s9,s10,s11,s12,s13,s14,s15,s16,s17,s18,s19,s20,s21,s22,s23,s24,s25,s26,s27,s28,s29,s30,s31,s32,s33,s34,s35,s36,s37,s38,s39,s40,s41,s42,s43,s44,s45,s46,s47,s48],[]⟩ wr
theorem Qnm(G:Exit->Act->World->Prop)(w0:Vz)(g B:Nat)(hB:B<1099511627770)(f:ComExit G w0 g B)(t:Nat):ComAt G w0 g B t:=by
 induction t with
 |zero=>
  intro p q a b c d l m
  iterate 47 intro
  intro wr I i h hl y k n;have H:q=0:=by omega
  have z:=(h.num.len_zero (by decide)).1 H;have s:¬(2:Int)<(m.length:Int):=by omega
  obtain⟨A,u,x,J⟩:=Ic i h k (show m.length<=2 by omega);clear i h k z H;rw[rounds_succ]
  conv=>arg 2;whnf
  go_wp2;exact f _ _ _ _ _ _ _ _ _ A.o u.o hl J.o x.o n
 |succ t K=>
  intro p q a b c d l m
  iterate 47 intro
  intro wr I i h hl y k n;obtain⟨A,u,x⟩:=Ib i h k;by_cases C:m.length<=2
  .
   have s:¬(2:Int)<(m.length:Int):=by omega
   clear i h k;rw[rounds_succ]
   conv=>arg 2;whnf
   go_wp2;exact f _ _ _ _ _ _ _ _ _ A.o u.o hl C x.o n
  .
   have s:(2:Int)<(m.length:Int):=by omega
   have j:0<q:=by
    rcases Nat.eq_zero_or_pos q with D|D
    . have:=(h.num.len_zero (by decide)).1 D;omega
    . exact D
   have L:=Hi (Qbg a b c d l m p q wr i h j (by omega));clear i h k;rw[rounds_succ]
   conv=>arg 2;whnf
   go_wp2_with fail;refine L.o.mono ?_;rintro e O ⟨⟨P,Q,r,E,F,M,rfl,N,v⟩,w⟩;go_wp2;exact K q (p % q) b E d F m M _ (by have:=Nat.mod_lt p j;omega) (u.o.below w) v y (Nat.le_trans (v.len_mono u.o (Nat.le_of_lt (Nat.mod_lt _ j))) y) ((Qca p q).trans x.o) (n.trans (w.mono n.size))
theorem Qds{l:Vy}{x:Nat}(h:Num 4294967296 l x)(hl:l.length<=2):x<18446744073709551616:=by
 have a:=Qab (B:=4294967296) (by decide) h.small;have b:=Qcf (B:=4294967296) (by decide) hl;rw[h.eq] at a;exact Nat.lt_of_lt_of_le a b
theorem Qhp(M N:Vx)(c1 c2:Nat)(l m:Vy)(x y:Nat)(w:Vz)(F:U32 w M c1 l x)(k:U32 w N c2 m y)(hl:l.length<1099511627770)(G:m.length<1099511627770):
 Calls prog 202 #[.slice M l.length c1,.slice N m.length c2] w fun e w'=>(∃a H r,e=.returned (.slice a r.length H)/\U32 w' a H r (Nat.gcd x y))/\Below w.heap.size w w':=by
 obtain⟨g,n⟩:=nm (Nat.gcd x y);rw[n];go_enter func202,ntmps202;go_wp2;refine wp_loop_rounds (y+1) ?_;refine(Qnm _ w g 1099511627769 (by decide) ?hex y) x y M N c1 c2 l m _ lZ F k (by omega) (by omega) n bR
 case hex=>
  intro p q a b c d l m
  iterate 47 intro
  intro wr F k hl G n O;by_cases P:q=0
  .
   have Q:((m.length:Int) == 0)=true:=by have:=(k.num.len_zero (by decide)).1 P;simp[this]
   obtain⟨h,HQ⟩:=Ia n P;clear n P;go_wp2;go_ret;have t:=h.o;rw[HQ.o,Nat.gcd_zero_right] at t;exact⟨⟨a,c,l,rfl,by rw[<-t];exact F⟩,O⟩
  .
   have Q:((m.length:Int) == 0)=false:=by
    rw[beq_eq_false_iff_ne];have:=(k.num.len_zero (by decide)).2;omega
   by_cases I:l.length<=2
   .
    have R:¬(2:Int)<(l.length:Int):=by omega
    obtain⟨L,h⟩:=Ia O n;clear n;go_wp2_with fail;refine(Qcb a c l p _ F I).mono ?_;rintro e wp ⟨rfl,rfl⟩;go_wp2_with fail;refine(Qcb b d m q _ k G).mono ?_;rintro e wq ⟨rfl,rfl⟩;have z:=Qds F.num I;have A:=Qds k.num G;go_wp2;go_loopw [9,10] (fun X Y S=>∃u v:Nat,X=.int .u64 u/\Y=.int .u64 v/\u<18446744073709551616/\v<18446744073709551616/\Nat.gcd u v=g/\Below w.heap.size w S) (fun _ Y _=>(intOf Y).toNat)
    case atStart=>exact⟨p,q,rfl,rfl,z,A,h.o,L.o⟩
    case round=>
     obtain⟨u,v,rfl,rfl,hu,T,i,f⟩:=hrel;have h:=Hi i;clear i;by_cases B:v=0
     .
      subst B;go_wp2_with fail;refine(Qbt (u:Int) _ (by omega) (by omega)).mono ?_;rintro e w9 ⟨⟨U,V,W,rfl,j,_⟩,C⟩;go_wp2;go_ret;have t:=h.o;rw[Nat.gcd_zero_right] at t;rw[Int.toNat_natCast,t] at j;exact⟨⟨U,V,W,rfl,j⟩,f.trans (C.mono f.size)⟩
     .
      have Z:(0:Int)<(v:Int):=by omega
      have qv:((v:Int) == 0)=false:=by rw[beq_eq_false_iff_ne];omega
      obtain⟨r,s⟩:=nm (u % v);have t2:(u:Int) % (v:Int)=(r:Int):=by rw[<-s];simp
      have t3:(u:Int).tmod (v:Int)=(r:Int):=by rw[Int.tmod_eq_emod_of_nonneg (by omega)];exact t2
      have aa:r<v:=by rw[<-s];exact Nat.mod_lt _ (by omega)
      have HR:=Hi s;clear s;go_wp2;go_region
      all_goals
       go_wp2;go_roundw
       case rel=>exact⟨v,r,rfl,rfl,T,by omega,by rw[<-HR.o];exact(Qca u v).trans h.o,f.drew⟩
       case measure=>simp[intOf];omega
   .
    have R:(2:Int)<(l.length:Int):=by omega
    obtain⟨HD,L,h⟩:=Ib (Qbg a b c d l m p q wr F k (by omega) (by omega)) O n;clear n;go_wp2_with fail;refine HD.o.mono ?_;rintro e w1 ⟨⟨a',c',r1,ab,ad,r',rfl,ae,D⟩,E⟩;have J:=k.below E;have K:=Nat.le_trans (D.len_mono k (Nat.le_of_lt (Nat.mod_lt _ (by omega)))) G;obtain⟨af,ag⟩:=Ia (L.o.trans (E.mono L.o.size)) ((Qca p q).trans h.o);clear E ae HD;go_wp2_with fail;refine(Qcb b d m q _ J G).mono ?_;rintro e wp ⟨rfl,rfl⟩;go_wp2_with fail;refine(Qcb ab ad r' (p % q) _ D K).mono ?_;rintro e wq ⟨rfl,rfl⟩;have z:=Qds J.num G;have A:=Qds D.num K;go_wp2;go_loopw [9,10] (fun X Y S=>∃u v:Nat,X=.int .u64 u/\Y=.int .u64 v/\u<18446744073709551616/\v<18446744073709551616/\Nat.gcd u v=g/\Below w.heap.size w S) (fun _ Y _=>(intOf Y).toNat)
    case atStart=>exact⟨q,(p % q),rfl,rfl,z,A,ag.o,af.o⟩
    case round=>
     obtain⟨u,v,rfl,rfl,hu,T,i,f⟩:=hrel;have h:=Hi i;clear i;by_cases B:v=0
     .
      subst B;go_wp2_with fail;refine(Qbt (u:Int) _ (by omega) (by omega)).mono ?_;rintro e w9 ⟨⟨U,V,W,rfl,j,_⟩,C⟩;go_wp2;go_ret;have t:=h.o;rw[Nat.gcd_zero_right] at t;rw[Int.toNat_natCast,t] at j;exact⟨⟨U,V,W,rfl,j⟩,f.trans (C.mono f.size)⟩
     .
      have Z:(0:Int)<(v:Int):=by omega
      have qv:((v:Int) == 0)=false:=by rw[beq_eq_false_iff_ne];omega
      obtain⟨r,s⟩:=nm (u % v);have t2:(u:Int) % (v:Int)=(r:Int):=by rw[<-s];simp
      have t3:(u:Int).tmod (v:Int)=(r:Int):=by rw[Int.tmod_eq_emod_of_nonneg (by omega)];exact t2
      have aa:r<v:=by rw[<-s];exact Nat.mod_lt _ (by omega)
      have HR:=Hi s;clear s;go_wp2;go_region
      all_goals
       go_wp2;go_roundw
       case rel=>exact⟨v,r,rfl,rfl,T,by omega,by rw[<-HR.o];exact(Qca u v).trans h.o,f.drew⟩
       case measure=>simp[intOf];omega
def SB(w:Vz)(b:Nat)(t:Vr)(C:Vw):Prop:=w.heap[b]?=some (.cells C t (0,0))
def NoInt(C:Vw):Prop:=∀(i:Nat) (k:IntKind) (n:Int),C[i]?≠some (Value.int k n)
theorem SB.lt{w:Vz}{b:Nat}{t:Vr}{C:Vw}(h:SB w b t C):b<w.heap.size:=by
 apply bC;intro a;unfold SB at h;rw[Array.getElem?_eq_none (by omega)] at h;cases h
theorem SB.cell{w:Vz}{b:Nat}{t:Vr}{C:Vw}(h:SB w b t C)(i:Nat):w.cell? ⟨b,i,none⟩=C[i]?:=by
 unfold SB at h;simp[World.cell?,h]
theorem SB.free{w:Vz}{b:Nat}{t:Vr}{C:Vw}(h:SB w b t C)(i:Nat):w.frozen? ⟨b,i,none⟩=false:=by
 unfold SB at h;simp[World.frozen?,h]
theorem SB.set{w:Vz}{b:Nat}{t:Vr}{C:Vw}(h:SB w b t C)(i:Nat)(v:Value):SB (w.setCell ⟨b,i,none⟩ v) b t (C.setIfInBounds i v):=by
 unfold SB at h ⊢;simp[World.setCell,Array.getElem?_modify,h]
theorem SB.alloc{w:Vz}{b:Nat}{t:Vr}{C:Vw}(h:SB w b t C)(o:Obj):SB (w.alloc o) b t C:=by
 have:=h.lt;unfold SB at h ⊢;rw[Below.heap_alloc _ _ _ this];exact h
theorem SB.new(w:Vz)(t:Vr)(C:Vw):SB (w.alloc (.cells C t)) w.heap.size t C:=by
 show (w.heap.push _)[w.heap.size]?=_
 simp
theorem SB.below{w w':Vz}{b B:Nat}{t:Vr}{C:Vw}(h:SB w b t C)(a:Below B w w')(hB:b<B):SB w' b t C:=by
 unfold SB at h ⊢;rw[a.block b hB];exact h
structure Only (b:Nat) (w w':Vz):Prop where
 os:w'.os=w.os
 tape:w'.tape=w.tape
 output:w'.output=w.output
 size:w.heap.size<=w'.heap.size
 block:∀k,k<w.heap.size->k≠b->w'.heap[k]?=w.heap[k]?
theorem Only.refl(b:Nat)(w:Vz):Only b w w:=⟨rfl,rfl,rfl,Nat.le_refl _,fun _ _ _=>rfl⟩
theorem Only.trans{b:Nat}{u v w:Vz}(h:Only b u v)(k:Only b v w):Only b u w:=
 ⟨k.os.trans h.os,k.tape.trans h.tape,k.output.trans h.output,Nat.le_trans h.size k.size,fun i c a=>(k.block i (by have:=h.size;omega) a).trans (h.block i c a)⟩
theorem Only.of_below{b:Nat}{w w':Vz}(h:Bl w w'):Only b w w':=⟨h.os,h.tape,h.output,h.size,fun k hk _=>h.block k hk⟩
theorem Only.setCell{b:Nat}{u w:Vz}(h:Only b u w)(i:Nat)(v:Value):Only b u (w.setCell ⟨b,i,none⟩ v):=
 ⟨h.os,h.tape,h.output,by have:=h.size;simpa [World.setCell] using this,fun k hk a=>(Below.heap_setCell _ _ _ _ a).trans (h.block k hk a)⟩
theorem Only.drew{b:Nat}{u w:Vz}(h:Only b u w):Only b u w.drew:=⟨h.os,h.tape,h.output,h.size,h.block⟩
theorem Only.drewN{b:Nat}{u w:Vz}(h:Only b u w)(n:Nat):Only b u (w.drewN n):=⟨h.os,h.tape,h.output,h.size,h.block⟩
theorem Only.below{b B:Nat}{w w':Vz}(h:Only b w w')(hB:B<=b)(a:B<=w.heap.size):Below B w w':=⟨h.os,h.tape,h.output,h.size,fun k hk=>h.block k (by omega) (by omega)⟩
theorem Only.fresh{b:Nat}{u w w':Vz}(h:Bl u w)(k:Only b w w')(a:u.heap.size<=b):Bl u w':=
 h.trans (k.below a h.size)
theorem SB.only{w w':Vz}{b c:Nat}{t:Vr}{C:Vw}(h:SB w b t C)(k:Only c w w')(a:b≠c):SB w' b t C:=by
 have:=h.lt;unfold SB at h ⊢;rw[k.block b this a];exact h
theorem Row.only{k:IntKind}{w w':Vz}{a:Vx}{d:Nat}{l:Vy}{b:Nat}{t:Vr}{C:Vw}(h:Row k w a d l)(f:Only b w w')(o:SB w b t C)(p:NoInt C):Row k w' a d l:=by
 refine⟨h.fit,?_,fun i q=>?_⟩
 .
  rcases h.shape with g|⟨e,c,rfl,n⟩
  . exact .inl g
  . exact .inr ⟨e,c,rfl,by have:=f.size;omega⟩
 .
  obtain⟨e,c,g,n,j⟩:=h.cell i q;have m:e≠b:=by
   rintro rfl;rw[o.cell] at j;exact p _ _ _ j
  exact⟨e,c,g,by have:=f.size;omega,(World.cell?_of_block (w:=w) (f.block e n m)).trans j⟩
theorem U32.only{w w':Vz}{a:Vx}{c:Nat}{l:Vy}{n b:Nat}{t:Vr}{C:Vw}(h:U32 w a c l n)(d:Only b w w')(e:SB w b t C)(f:NoInt C):U32 w' a c l n:=
 ⟨h.row.only d e f,h.num,h.short⟩
structure IntAt (w:Vz) (b o:Nat) (z:Int) (a:Vx) (cap:Nat) (l:Vy):Prop where
 neg:w.cell? ⟨b,o,none⟩=some (.bool (decide (z<0)))
 abs:w.cell? ⟨b,o+1,none⟩=some (.slice a l.length cap)
 num:U32 w a cap l z.natAbs
 lt:b<w.heap.size
theorem IntAt.below{w w':Vz}{b o:Nat}{z:Int}{a:Vx}{c:Nat}{l:Vy}(h:IntAt w b o z a c l)(d:Bl w w'):IntAt w' b o z a c l:=
 ⟨ce d h.lt h.neg,ce d h.lt h.abs,h.num.below d,by have:=h.lt;have:=d.size;omega⟩
def putInt(C:Vw)(o:Nat)(neg:Bool)(v:Value):Array Value:=(C.setIfInBounds (o+1) v).setIfInBounds o (.bool neg)
structure Laid (w w':Vz) (b o:Nat) (t:Vr) (C:Vw) (z:Int) (a:Vx) (cap:Nat) (l:Vy):Prop where
 sb:SB w' b t (putInt C o (decide (z<0)) (.slice a l.length cap))
 num:U32 w' a cap l z.natAbs
 only:Only b w w'
theorem Laid.at{w w':Vz}{b o:Nat}{t:Vr}{C:Vw}{z:Int}{a:Vx}{c:Nat}{l:Vy}(h:Laid w w' b o t C z a c l)(d:o+1<C.size):IntAt w' b o z a c l:=by
 refine⟨?_,?_,h.num,h.sb.lt⟩
 . have e:o<C.size:=by omega
   rw[h.sb.cell];simp[putInt,e]
 . rw[h.sb.cell];simp[putInt,d]
def ZC(w:Vz)(b:Nat):List Value→Prop
 |[x0]=>w.cell? ⟨b,0,none⟩=some x0∧True
 |[x0,x1]=>w.cell? ⟨b,0,none⟩=some x0∧w.cell? ⟨b,1,none⟩=some x1∧True
 |[x0,x1,x2]=>w.cell? ⟨b,0,none⟩=some x0∧w.cell? ⟨b,1,none⟩=some x1∧w.cell? ⟨b,2,none⟩=some x2∧True
 |[x0,x1,x2,x3]=>w.cell? ⟨b,0,none⟩=some x0∧w.cell? ⟨b,1,none⟩=some x1∧w.cell? ⟨b,2,none⟩=some x2∧w.cell? ⟨b,3,none⟩=some x3∧True
 |[x0,x1,x2,x3,x4]=>w.cell? ⟨b,0,none⟩=some x0∧w.cell? ⟨b,1,none⟩=some x1∧w.cell? ⟨b,2,none⟩=some x2∧w.cell? ⟨b,3,none⟩=some x3∧w.cell? ⟨b,4,none⟩=some x4∧True
 |[x0,x1,x2,x3,x4,x5]=>w.cell? ⟨b,0,none⟩=some x0∧w.cell? ⟨b,1,none⟩=some x1∧w.cell? ⟨b,2,none⟩=some x2∧w.cell? ⟨b,3,none⟩=some x3∧w.cell? ⟨b,4,none⟩=some x4∧w.cell? ⟨b,5,none⟩=some x5∧True
 |_=>True
theorem zc{w:Vz}{b:Nat}{t:Vr}{l:Vv}(h:SB w b t l.toArray):ZC w b l:=by
 unfold ZC
 split
 all_goals first|trivial|exact⟨h.cell 0,trivial⟩|exact⟨h.cell 0,h.cell 1,trivial⟩|exact⟨h.cell 0,h.cell 1,h.cell 2,trivial⟩|exact⟨h.cell 0,h.cell 1,h.cell 2,h.cell 3,trivial⟩|exact⟨h.cell 0,h.cell 1,h.cell 2,h.cell 3,h.cell 4,trivial⟩|exact⟨h.cell 0,h.cell 1,h.cell 2,h.cell 3,h.cell 4,h.cell 5,trivial⟩
theorem Ua{w W:Vz}{o:Obj}(h:w.alloc o=W):O (Bl w W):=by rw[<-h];exact(Below.refl _ _).alloc (Nat.le_refl _) _
theorem Ub{w W:Vz}{o p:Obj}(h:(w.alloc o).alloc p=W):O (Bl w W):=by rw[<-h];exact((Below.refl _ _).alloc (Nat.le_refl _) _).alloc (by simp) _
theorem Uc{w W:Vz}{t:Vr}{C:Vw}(h:w.alloc (.cells C t)=W):O (SB W w.heap.size t C):=by rw[<-h];exact SB.new w _ _
theorem Ud{w W:Vz}{t:Vr}{C:Vw}{o:Obj}(h:(w.alloc (.cells C t)).alloc o=W):O (SB W w.heap.size t C):=by rw[<-h];exact(SB.new w _ _).alloc _
theorem Ue{w W:Vz}{t:Vr}{C:Vw}{o:Obj}(h:(w.alloc o).alloc (.cells C t)=W):O (SB W (w.heap.size+1) t C):=Hi (by rw[<-h];have:=SB.new (w.alloc o) t C;simpa using this)
theorem Uf{w W:Vz}{B:Nat}{t:Vr}{C:Vw}(h:w.alloc (.cells C t)=W)(k:w.heap.size=B):O (SB W B t C):=k ▸ Uc h
theorem Ug{w W:Vz}{B:Nat}{t:Vr}{C:Vw}{o:Obj}(h:(w.alloc (.cells C t)).alloc o=W)(k:w.heap.size=B):O (SB W B t C):=k ▸ Ud h
theorem Uh{w W:Vz}{B:Nat}{t:Vr}{C:Vw}{o:Obj}(h:(w.alloc o).alloc (.cells C t)=W)(k:w.heap.size=B):O (SB W (B+1) t C):=k ▸ Ue h
theorem Qjm{C:Vw}{i:Nat}(h:i<C.size):∃v,C[i]?=some v:=⟨C[i],by simp[h]⟩
theorem Qrj(z:Int)(neg:Bool)(n:Nat)(a:z=if neg then -(n:Int) else (n:Int)):decide (z<0)=(neg && decide (0<n)):=by
 subst a;cases neg
 . simp
 .
  by_cases h:0<n
  . simp[h]
  .
   have:n=0:=by omega
   subst this;simp
theorem Qcl(b o:Nat)(t:Vr)(C:Vw)(neg:Bool)(a:Vx)(c:Nat)(l:Vy)(n:Nat)(z:Int)(w:Vz)(g:SB w b t C)(v:NoInt C)(x:o+1<C.size)(s:U32 w a c l n)(u:z=if neg then -(n:Int) else (n:Int)):
 Calls prog 137 #[.pointer (some ⟨b,o,none⟩),.bool neg,.slice a l.length c] w fun e w'=>e=.returned (.pointer (some ⟨b,o,none⟩))/\Laid w w' b o t C z a c l:=by
 obtain⟨A,h⟩:=Qjm (C:=C) (i:=o) (by omega);obtain⟨B,j⟩:=Qjm (C:=C) (i:=o+1) x;have y:=g.cell o;have k1:=g.cell (o+1);rw[h] at y;rw[j] at k1;have f0:=g.free o;have f1:=g.free (o+1);have k:z.natAbs=n:=by rw[u];split<;>omega
 have m:=Qrj z neg n u;have f:decide (0<n)=decide (0<l.length):=by
  have:=s.num.len_zero (by decide);apply decide_eq_decide.2;omega
 obtain⟨r,p,q⟩:=Ib g k (m.trans (by rw[f]));clear g k m f u h j;cases neg
 .
  go_enter func137,ntmps137;go_wp2;go_ret;have d:Only b w ((w.setCell ⟨b,o+1,none⟩ (.slice a l.length c)).setCell ⟨b,o,none⟩ (.bool false)):=((Only.refl b w).setCell _ _).setCell _ _;refine⟨rfl,⟨?_,?_,d⟩⟩
  . rw[q.o];exact(r.o.set (o+1) _).set o _
  . rw[p.o];exact s.only d r.o v
 .
  go_enter func137,ntmps137;go_wp2;go_ret;have d:Only b w ((w.setCell ⟨b,o+1,none⟩ (.slice a l.length c)).setCell ⟨b,o,none⟩ (.bool (decide (0<l.length)))):=((Only.refl b w).setCell _ _).setCell _ _;refine⟨rfl,⟨?_,?_,d⟩⟩
  . rw[q.o];exact(r.o.set (o+1) _).set o _
  . rw[p.o];exact s.only d r.o v
def LaidOk(w:Vz)(b o:Nat)(t:Vr)(C:Vw)(z:Int)(e:Ending)(w':Vz):Prop:=
 e=.returned (.pointer (some ⟨b,o,none⟩))/\∃a cap l,Laid w w' b o t C z a cap l
theorem LaidOk.of{w f w':Vz}{b o:Nat}{t:Vr}{C:Vw}{z:Int}{e:Ending}(h:Only b w f)(k:LaidOk f b o t C z e w'):LaidOk w b o t C z e w':=by
 obtain⟨g,a,c,l,d⟩:=k;exact⟨g,a,c,l,⟨d.sb,d.num,h.trans d.only⟩⟩
theorem Qjn(b o:Nat)(t:Vr)(C:Vw)(z:Int)(w:Vz)(d:SB w b t C)(f:NoInt C)(m:o+1<C.size)(g:0<=z)(r:z<1000000):
 Calls prog 150 #[.pointer (some ⟨b,o,none⟩),.int .i64 z] w (LaidOk w b o t C z):=by
 obtain⟨n,rfl⟩:=Int.eq_ofNat_of_zero_le g;obtain⟨h,p⟩:=Ia d f;have i:¬((n:Int)<0):=by omega
 clear d f g;go_enter func150,ntmps150;go_wp2_with fail;refine(Qbt (n:Int) _ (by omega) (by omega)).mono ?_;rintro e q ⟨⟨a,c,l,rfl,j,_⟩,k⟩;rw[Int.toNat_natCast] at j;go_wp2_with fail;refine(Qcl b o t C false a c l n n q (h.o.below k h.o.lt) p.o m j (by simp)).mono ?_;rintro e s ⟨rfl,hl⟩;go_wp2;go_ret;exact LaidOk.of (Only.of_below k) ⟨rfl,_,_,_,hl⟩
theorem Tryz.int_zero:NoInt #[Value.bool false,Value.slice none 0 0]:=by
 intro i k n
 match i with
 |0=>simp
 |1=>simp
 |i+2=>simp
def IntNew(w:Vz)(z:Int)(e:Ending)(w':Vz):Prop:=
 (∃b a cap l,e=.returned (.pointer (some ⟨b,0,none⟩))/\w.heap.size<=b/\SB w' b 121 #[.bool (decide (z<0)),.slice a l.length cap]/\U32 w' a cap l z.natAbs)/\Below w.heap.size w w'
theorem Qcm(z:Int)(w:Vz)(c:0<=z)(d:z<1000000):
 Calls prog 90 #[.int .i64 z] w (IntNew w z):=by
 go_enter func90,ntmps90;go_wp2_with fail;refine(Qjn w.heap.size 0 121 _ z _ (SB.new w 121 _) Tryz.int_zero (by simp) c d).mono ?_;rintro e f ⟨rfl,a,b,l,hl⟩;go_wp2;go_ret;exact⟨⟨w.heap.size,a,b,l,rfl,Nat.le_refl _,hl.sb,hl.num⟩,Only.fresh ((Below.refl _ w).alloc lZ _) hl.only lZ⟩
theorem U32.drew{w:Vz}{a:Vx}{b:Nat}{l:Vy}{n:Nat}(h:U32 w a b l n):U32 w.drew a b l n:=h.below bR.drew
theorem Qjp(X:Int):X=if decide (X<0)=true then -(X.natAbs:Int) else (X.natAbs:Int):=by
 by_cases h:X<0
 . simp[h];omega
 . simp[h];omega
theorem Qf7(h n:Nat)(t:Vr)(C:Vw)(bx g:Nat)(X:Int)(a:Vx)(f:Nat)(l:Vy)(w:Vz)(q:SB w h t C)(r:NoInt C)(u:n+1<C.size)(i:IntAt w bx g X a f l)(j:bx≠h):
 Calls prog 133 #[.pointer (some ⟨h,n,none⟩),.pointer (some ⟨bx,g,none⟩)] w (LaidOk w h n t C X):=by
 have v:=i.neg;have k1:=i.abs;have b:=i.lt;obtain⟨s,x,y⟩:=Ib q r i.num;clear q r i;go_enter func133,ntmps133;go_wp2;go_region_held3 (fun w'=>w'.cell? ⟨bx,g,none⟩=some (.bool (decide (X<0)))/\w'.cell? ⟨bx,g+1,none⟩=some (.slice a l.length f)) ((simp [*]))
  (first
    |(go_at_call 191;refine(Qdt a f l X.natAbs _ ?_).mono ?_;exact y.o.drew;rintro e D ⟨⟨z,k,rfl,m⟩,c⟩;have A:=ce c b v;have c1:=ce c b k1;have p:=Hi m;have d:=Hi ((Below.refl w.heap.size w).drew.trans c);clear m c)
    |(go_at_call 137;refine(Qcl h n t C _ z k l X.natAbs X _ ?_ x.o u p.o ?_).mono ?_;exact s.o.below d.o s.o.lt;exact Qjp X;rintro e E ⟨rfl,hl⟩;have d0:=(World.cell?_of_block (a:=⟨bx,g,none⟩) (hl.only.block bx (Nat.lt_of_lt_of_le b d.o.size) j)).trans A;have d1:=(World.cell?_of_block (a:=⟨bx,g+1,none⟩) (hl.only.block bx (Nat.lt_of_lt_of_le b d.o.size) j)).trans c1;have B:=Hi hl;clear hl))
 go_wp2;go_ret;exact LaidOk.of (Only.of_below d.o) ⟨rfl,_,_,_,B.o⟩
def sgn(neg:Bool)(n:Nat):Int:=if neg then -(n:Int) else (n:Int)
theorem Qjq(X:Int):sgn (decide (X<0)) X.natAbs=X:=(Qjp X).symm
theorem Qeb(neg:Bool)(n:Nat):(sgn neg n).natAbs=n:=by unfold sgn;split<;>omega
theorem Qrk(f g:Bool)(h i:Vx)(c1 c2:Nat)(l m:Vy)(x y:Nat)(w:Vz)(z:U32 w h c1 l x)(A:U32 w i c2 m y)(hl:l.length<1099511627776)(C:m.length<1099511627776):
 Calls prog 193 #[.bool f,.slice h l.length c1,.bool g,.slice i m.length c2] w fun e w'=>(∃neg a c r n,e=.returned (.tuple #[.bool neg,.slice a r.length c])/\U32 w' a c r n/\sgn neg n=sgn f x+sgn g y)/\Below w.heap.size w w':=by
 obtain⟨k,p⟩:=Ia z A;clear z A;by_cases d:f=g
 .
  subst d;have D:(f == f)=true:=by simp
  go_enter func193,ntmps193;go_wp2_with fail;refine(Qho h i c1 c2 l m x y _ k.o p.o hl C).mono ?_;rintro e B ⟨⟨a,c,r,rfl,q⟩,s⟩;go_wp2;go_ret2;exact⟨⟨f,a,c,r,x+y,rfl,q,by unfold sgn;split<;>omega⟩,s⟩
 .
  have D:(f == g)=false:=by simp[d]
  by_cases t:cmp3 x y<0
  .
   have E:=(Qau x y).1 t;have j:=Hi d;have u:¬(0<=cmp3 x y):=by omega
   clear d t;go_enter func193,ntmps193;go_wp2_with fail;refine(Qbf h i c1 c2 l m x y _ k.o p.o).mono ?_;rintro e B ⟨rfl,b⟩;go_wp2_with fail;refine(Qht i h c2 c1 m l y x _ (p.o.below b) (k.o.below b) (by omega)).mono ?_;rintro e F ⟨⟨a,c,r,rfl,q⟩,s⟩;go_wp2;go_ret2;refine⟨⟨g,a,c,r,y - x,rfl,q,?_⟩,b.trans (s.mono b.size)⟩;have:=j.o;unfold sgn;cases f<;>cases g<;>simp at this ⊢ <;>omega
  .
   have v:y<=x:=by have:=(Qau x y);omega
   have j:=Hi d;have u:0<=cmp3 x y:=by omega
   clear d t;go_enter func193,ntmps193;go_wp2_with fail;refine(Qbf h i c1 c2 l m x y _ k.o p.o).mono ?_;rintro e B ⟨rfl,b⟩;go_wp2_with fail;refine(Qht h i c1 c2 l m x y _ (k.o.below b) (p.o.below b) v).mono ?_;rintro e F ⟨⟨a,c,r,rfl,q⟩,s⟩;go_wp2;go_ret2;refine⟨⟨f,a,c,r,x - y,rfl,q,?_⟩,b.trans (s.mono b.size)⟩;have:=j.o;unfold sgn;cases f<;>cases g<;>simp at this ⊢ <;>omega
theorem Qrl{neg:Bool}{n:Nat}{Z:Int}(h:sgn neg n=Z):Z=if neg=true then -(n:Int) else (n:Int):=by
 rw[<-h];unfold sgn;cases neg<;>rfl
theorem Qrm(X Y:Int):X*Y=if (decide (X<0) != decide (Y<0))=true then -((X.natAbs*Y.natAbs:Nat):Int) else ((X.natAbs*Y.natAbs:Nat):Int):=by
 rw[Int.natCast_mul];by_cases h:X<0
 .
  by_cases k:Y<0
  . rw[if_neg (by simp[h,k]),show ((X.natAbs:Nat):Int)= -X from by omega,show ((Y.natAbs:Nat):Int)= -Y from by omega,Int.neg_mul_neg]
  . rw[if_pos (by simp[h,k]),show ((X.natAbs:Nat):Int)= -X from by omega,show ((Y.natAbs:Nat):Int)=Y from by omega,Int.neg_mul,Int.neg_neg]
 .
  by_cases k:Y<0
  . rw[if_pos (by simp[h,k]),show ((X.natAbs:Nat):Int)=X from by omega,show ((Y.natAbs:Nat):Int)= -Y from by omega,Int.mul_neg,Int.neg_neg]
  . rw[if_neg (by simp[h,k]),show ((X.natAbs:Nat):Int)=X from by omega,show ((Y.natAbs:Nat):Int)=Y from by omega]
theorem Qrn(k y:Nat)(t:Vr)(C:Vw)(bx n:Nat)(X:Int)(a:Vx)(j:Nat)(l:Vy)(g p:Nat)(Y:Int)(b:Vx)(cap':Nat)(m:Vy)(w:Vz)(B:SB w k t C)(D:NoInt C)(G:y+1<C.size)(q:IntAt w bx n X a j l)(r:IntAt w g p Y b cap' m)(s:bx≠k)(i:g≠k)(H:l.length+m.length<1099511627770):
 Calls prog 134 #[.pointer (some ⟨k,y,none⟩),.pointer (some ⟨bx,n,none⟩),.pointer (some ⟨g,p,none⟩)] w (LaidOk w k y t C (X+Y)):=by
 have I:=q.neg;have k1:=q.abs;have J:=r.neg;have K:=r.abs;have h:=q.lt;have c:=r.lt;obtain⟨E,L,M,N⟩:=Ic B D q.num r.num;clear B D q r;go_enter func134,ntmps134;go_wp2;go_region_held3 (fun w'=>w'.cell? ⟨bx,n,none⟩=some (.bool (decide (X<0)))/\w'.cell? ⟨bx,n+1,none⟩=some (.slice a l.length j)/\w'.cell? ⟨g,p,none⟩=some (.bool (decide (Y<0)))/\w'.cell? ⟨g,p+1,none⟩=some (.slice b m.length cap')) ((simp [*]))
  (first
    |(go_at_call 193;refine(Qrk (decide (X<0)) (decide (Y<0)) a b j cap' l m X.natAbs Y.natAbs _ ?_ ?_ ?_ ?_).mono ?_;exact M.o.drew;exact N.o.drew;omega;omega;rintro e S ⟨⟨F,O,u,P,n1,rfl,v,x⟩,d⟩;have z:=Hi x;clear x;have Q:=ce d h I;have c1:=ce d h k1;have c2:=ce d c J;have c3:=ce d c K;have A:=Hi v;have f:=Hi ((Below.refl w.heap.size w).drew.trans d);clear v d)
    |(go_at_call 137;refine(Qcl k y t C _ O u P n1 (X+Y) _ ?_ L.o G A.o ?_).mono ?_;exact E.o.below f.o E.o.lt;exact Qrl (z.o.trans (by rw[Qjq,Qjq]));rintro e T ⟨rfl,hl⟩;have d0:=(World.cell?_of_block (a:=⟨bx,n,none⟩) (hl.only.block bx (Nat.lt_of_lt_of_le h f.o.size) s)).trans Q;have d1:=(World.cell?_of_block (a:=⟨bx,n+1,none⟩) (hl.only.block bx (Nat.lt_of_lt_of_le h f.o.size) s)).trans c1;have d2:=(World.cell?_of_block (a:=⟨g,p,none⟩) (hl.only.block g (Nat.lt_of_lt_of_le c f.o.size) i)).trans c2;have d3:=(World.cell?_of_block (a:=⟨g,p+1,none⟩) (hl.only.block g (Nat.lt_of_lt_of_le c f.o.size) i)).trans c3;have R:=Hi hl;clear hl))
 go_wp2;go_ret;exact LaidOk.of (Only.of_below f.o) ⟨rfl,_,_,_,R.o⟩
theorem Qro(p y:Nat)(t:Vr)(C:Vw)(bx q:Nat)(X:Int)(a:Vx)(j:Nat)(l:Vy)(g r:Nat)(Y:Int)(b:Vx)(cap':Nat)(m:Vy)(w:Vz)(B:SB w p t C)(D:NoInt C)(F:y+1<C.size)(s:IntAt w bx q X a j l)(u:IntAt w g r Y b cap' m)(v:bx≠p)(i:g≠p)(G:l.length+m.length<1099511627770):
 Calls prog 82 #[.pointer (some ⟨p,y,none⟩),.pointer (some ⟨bx,q,none⟩),.pointer (some ⟨g,r,none⟩)] w (LaidOk w p y t C (X*Y)):=by
 have H:=s.neg;have k1:=s.abs;have I:=u.neg;have J:=u.abs;have h:=s.lt;have c:=u.lt;obtain⟨E,K,L,M⟩:=Ic B D s.num u.num;clear B D s u;go_enter func82,ntmps82;go_wp2;go_region_held3 (fun w'=>w'.cell? ⟨bx,q,none⟩=some (.bool (decide (X<0)))/\w'.cell? ⟨bx,q+1,none⟩=some (.slice a l.length j)/\w'.cell? ⟨g,r,none⟩=some (.bool (decide (Y<0)))/\w'.cell? ⟨g,r+1,none⟩=some (.slice b m.length cap')) ((simp [*]))
  (first
    |(go_at_call 138;refine(Qhr a b j cap' l m X.natAbs Y.natAbs _ ?_ ?_ ?_).mono ?_;exact L.o.drew;exact M.o.drew;omega;rintro e R ⟨⟨N,x,O,rfl,k⟩,d⟩;obtain⟨n1,n⟩:=nm (X.natAbs*Y.natAbs);rw[n] at k;have z:=Hi n;clear n;have P:=ce d h H;have c1:=ce d h k1;have c2:=ce d c I;have c3:=ce d c J;have A:=Hi k;have f:=Hi ((Below.refl w.heap.size w).drew.trans d);clear k d)
    |(go_at_call 137;refine(Qcl p y t C _ N x O n1 (X*Y) _ ?_ K.o F A.o ?_).mono ?_;exact E.o.below f.o E.o.lt;exact(by rw[<-z.o];exact Qrm X Y);rintro e S ⟨rfl,hl⟩;have d0:=(World.cell?_of_block (a:=⟨bx,q,none⟩) (hl.only.block bx (Nat.lt_of_lt_of_le h f.o.size) v)).trans P;have d1:=(World.cell?_of_block (a:=⟨bx,q+1,none⟩) (hl.only.block bx (Nat.lt_of_lt_of_le h f.o.size) v)).trans c1;have d2:=(World.cell?_of_block (a:=⟨g,r,none⟩) (hl.only.block g (Nat.lt_of_lt_of_le c f.o.size) i)).trans c2;have d3:=(World.cell?_of_block (a:=⟨g,r+1,none⟩) (hl.only.block g (Nat.lt_of_lt_of_le c f.o.size) i)).trans c3;have Q:=Hi hl;clear hl))
 go_wp2;go_ret;exact LaidOk.of (Only.of_below f.o) ⟨rfl,_,_,_,Q.o⟩
structure RatAt (w:Vz) (b:Nat) (P D:Int) (a1:Vx) (c1:Nat) (l1:Vy) (a2:Vx) (c2:Nat) (l2:Vy):Prop where
 sb:SB w b 123 #[.bool (decide (P<0)),.slice a1 l1.length c1,.bool (decide (D<0)),.slice a2 l2.length c2]
 num:U32 w a1 c1 l1 P.natAbs
 den:U32 w a2 c2 l2 D.natAbs
theorem Qan(n1 a:Bool)(b c:Vx)(d e c1 c2:Nat):NoInt #[Value.bool n1,Value.slice b d c1,Value.bool a,Value.slice c e c2]:=by
 intro i k n
 match i with
 |0=>simp
 |1=>simp
 |2=>simp
 |3=>simp
 |i+4=>simp
theorem RatAt.below{w w':Vz}{b:Nat}{P D:Int}{c d:Vx}{c1 c2:Nat}{e f:Vy}(h:RatAt w b P D c c1 e d c2 f)(a:Bl w w'):RatAt w' b P D c c1 e d c2 f:=
 ⟨h.sb.below a h.sb.lt,h.num.below a,h.den.below a⟩
theorem RatAt.drew{w:Vz}{b:Nat}{P D:Int}{a c:Vx}{c1 c2:Nat}{d e:Vy}(h:RatAt w b P D a c1 d c c2 e):RatAt w.drew b P D a c1 d c c2 e:=h.below bR.drew
theorem RatAt.c0{w:Vz}{b:Nat}{P D:Int}{a c:Vx}{c1 c2:Nat}{d e:Vy}(h:RatAt w b P D a c1 d c c2 e):w.cell? ⟨b,0,none⟩=some (.bool (decide (P<0))):=by rw[h.sb.cell];rfl
theorem RatAt.c1{w:Vz}{b:Nat}{P D:Int}{a d:Vx}{c1 c2:Nat}{c e:Vy}(h:RatAt w b P D a c1 c d c2 e):w.cell? ⟨b,1,none⟩=some (.slice a c.length c1):=by rw[h.sb.cell];rfl
theorem RatAt.c2{w:Vz}{b:Nat}{P D:Int}{a c:Vx}{c1 c2:Nat}{d e:Vy}(h:RatAt w b P D a c1 d c c2 e):w.cell? ⟨b,2,none⟩=some (.bool (decide (D<0))):=by rw[h.sb.cell];rfl
theorem RatAt.c3{w:Vz}{b:Nat}{P D:Int}{d a:Vx}{c1 c2:Nat}{e c:Vy}(h:RatAt w b P D d c1 e a c2 c):w.cell? ⟨b,3,none⟩=some (.slice a c.length c2):=by rw[h.sb.cell];rfl
theorem RatAt.upper{w:Vz}{b:Nat}{P D:Int}{a d:Vx}{c1 c2:Nat}{c e:Vy}(h:RatAt w b P D a c1 c d c2 e):IntAt w b 0 P a c1 c:=⟨h.c0,h.c1,h.num,h.sb.lt⟩
theorem RatAt.lower{w:Vz}{b:Nat}{P D:Int}{d a:Vx}{c1 c2:Nat}{e c:Vy}(h:RatAt w b P D d c1 e a c2 c):IntAt w b 2 D a c2 c:=⟨h.c2,h.c3,h.den,h.sb.lt⟩
def RatOk(w:Vz)(b:Nat)(q:Rat)(e:Ending)(w':Vz):Prop:=
 e=.returned (.pointer (some ⟨b,0,none⟩))/\Only b w w'/\∃a1 c1 l1 a2 c2 l2,RatAt w' b q.num q.den a1 c1 l1 a2 c2 l2
theorem RatOk.of{w a w':Vz}{b:Nat}{q:Rat}{e:Ending}(h:Only b w a)(k:RatOk a b q e w'):RatOk w b q e w':=⟨k.1,h.trans k.2.1,k.2.2⟩
theorem Qer{l:Vy}(h:Num 4294967296 l 1):l= [1]:=h.inj (by decide) ⟨fun d a=>by simp at a;omega,.inr (by simp),by simp[val]⟩
theorem Quh(b:Nat)(D:Int)(g j:Vx)(c1 c2:Nat)(d i:Vy)(w:Vz)(h:RatAt w b 0 D g c1 d j c2 i)(m:0<D):
 Calls prog 151 #[.pointer (some ⟨b,0,none⟩)] w (RatOk w b 0):=by
 have n:=h.c0;have k1:=h.c1;have k2:=h.c2;have p:=h.c3;have c:decide (D<0)=false:=by simp;omega
 have k:decide ((0:Int)<0)=false:=by simp
 rw[c] at k2;have q:((i.length:Int) == 0)=false:=by
  rw[beq_eq_false_iff_ne];have:=(h.den.num.len_zero (by decide)).2;omega
 have r:((d.length:Int) == 0)=true:=by
  have:=(h.num.num.len_zero (by decide)).1 rfl;simp[this]
 have H:=Hi h;clear h c;go_enter func151,ntmps151;go_wp2_with fail;refine(Qjn b 2 123 _ 1 _ H.o.sb (Qan _ _ _ _ _ _ _ _) (by simp) (by decide) (by decide)).mono ?_;rintro e s ⟨rfl,a,f,l,hl⟩;go_wp2;go_ret;refine⟨rfl,hl.only,g,c1,d,a,f,l,?_,?_,hl.num⟩
 . have:=hl.sb
   simpa [putInt] using this
 . exact H.o.num.only hl.only H.o.sb (Qan _ _ _ _ _ _ _ _)
theorem Qui(b:Nat)(P:Int)(f g:Vx)(c1 c2:Nat)(e i:Vy)(w:Vz)(h:RatAt w b P 1 f c1 e g c2 i)(n:P≠0):
 Calls prog 151 #[.pointer (some ⟨b,0,none⟩)] w (RatOk w b (P:Rat)):=by
 have d:=Qer h.den.num;subst d;have p:=h.c0;have k1:=h.c1;have k2:=h.c2;have j:=h.c3;obtain⟨k,l,rfl,m,a⟩:=h.den.row.cell 0 (by simp);have a:w.cell? ⟨k,l,none⟩=some (.int .u32 1):=by simpa using a
 have c:decide ((1:Int)<0)=false:=by simp
 rw[c] at k2;simp only[List.length_singleton] at j;have q:((e.length:Int) == 0)=false:=by
  rw[beq_eq_false_iff_ne];have:=(h.num.num.len_zero (by decide)).2;omega
 have H:=Hi h;clear h c;go_enter func151,ntmps151;go_wp2;go_ret;exact⟨rfl,Only.refl _ _,_,_,_,_,_,_,H.o⟩
theorem Qld{P D:Int}(b:0<D)(a:Nat.gcd P.natAbs D.natAbs=1):(mkRat P D.natAbs).num=P/\(((mkRat P D.natAbs).den:Nat):Int)=D:=by
 rw[Rat.num_mkRat,Rat.den_mkRat,if_neg (by omega),if_neg (by omega),Nat.gcd_comm,a];constructor
 . simp
 . simp;omega
theorem Qes(P:Int)(g:Nat)(b:0<g)(a:g ∣ P.natAbs):(P / (g:Int)).natAbs=P.natAbs / g:=by
 rw[Int.natAbs_ediv_of_dvd (Int.ofNat_dvd_left.2 a),Int.natAbs_natCast]
theorem Qet(P:Int)(g:Nat)(c:0<g)(b:g ∣ P.natAbs):decide (P / (g:Int)<0)=decide (P<0):=by
 apply decide_eq_decide.2;obtain⟨k,hk⟩:=Int.ofNat_dvd_left.2 b;have a:(0:Int)<(g:Int):=by omega
 rw[hk,Int.mul_ediv_cancel_left _ (by omega)];constructor
 . intro h
   exact Int.mul_neg_of_pos_of_neg a h
 .
  intro h;apply bC;intro d;have:=Int.mul_nonneg (Int.le_of_lt a) (show 0<=k by omega);omega
theorem Qeu{P D:Int}{g:Nat}(b:0<D)(a:Nat.gcd P.natAbs D.natAbs=g):(mkRat P D.natAbs).num=P / (g:Int)/\(mkRat P D.natAbs).den=D.natAbs / g:=by
 rw[Rat.num_mkRat,Rat.den_mkRat,if_neg (by omega),if_neg (by omega),Nat.gcd_comm,a];exact⟨rfl,rfl⟩
theorem Qle{l:Vy}{g:Nat}(h:Num 4294967296 l g)(a:g≠1):((l.length:Int) == 1)=false∨∃d,l= [d]/\d≠1:=by
 by_cases hl:l.length=1
 .
  right
  match l,hl,h with
  | [d],_,h=>
    refine⟨d,rfl,?_⟩;have:=h.eq;simp[val] at this;omega
 . left;rw[beq_eq_false_iff_ne];omega
theorem Quj(b:Nat)(P D:Int)(R a2:Vx)(c1 c2:Nat)(G F:Vy)(w:Vz)(h:RatAt w b P D R c1 G a2 c2 F)(hP:P≠0)(hD:0<D)(al:D≠1)(s:G.length<1099511627770)(c:F.length<1099511627770):
 Calls prog 151 #[.pointer (some ⟨b,0,none⟩)] w (RatOk w b (mkRat P D.natAbs)):=by
 have k0:=h.c0;have k1:=h.c1;have k2:=h.c2;have k3:=h.c3;have T:decide (D<0)=false:=by simp;omega
 rw[T] at k2;have q1:((F.length:Int) == 0)=false:=by
  rw[beq_eq_false_iff_ne];have:=(h.den.num.len_zero (by decide)).2;omega
 have q2:((G.length:Int) == 0)=false:=by
  rw[beq_eq_false_iff_ne];have:=(h.num.num.len_zero (by decide)).2;omega
 by_cases hl:F.length=1
 .
  obtain⟨d,rfl⟩:∃d,F= [d]:=by
   match F,hl with
   | [d],_=>exact⟨d,rfl⟩
  have hd:d≠1:=by
   have:=h.den.num.eq;simp[val] at this;omega
  obtain⟨b',o',rfl,am,U⟩:=h.den.row.cell 0 (by simp);have U:w.cell? ⟨b',o',none⟩=some (.int .u32 (d:Int)):=by simpa using U
  have V:((d:Int) == 1)=false:=by rw[beq_eq_false_iff_ne];omega
  simp only[List.length_singleton] at k3 q1;obtain⟨H,HG⟩:=Ia h (Qhp R (some ⟨b',o',none⟩) c1 c2 G ([d]) P.natAbs D.natAbs w.drew h.num.drew h.den.drew (by omega) (by omega));have I:=h.sb.lt;clear h T;go_enter func151,ntmps151;go_wp2;go_region_held3 (fun w'=>w'.cell? ⟨b,1,none⟩=some (.slice R G.length c1)/\w'.cell? ⟨b,3,none⟩=some (.slice (some ⟨b',o',none⟩) (1) c2)) ((simp [*]))
   (first
     |(go_at_call 202;refine HG.o.mono ?_;rintro e W ⟨⟨ag,X,rg,rfl,a⟩,s⟩;have d1:=ce s I k1;have d3:=ce s I k3;have HU:=Hi a;have n:=Hi ((Below.refl w.heap.size w).drew.trans s);clear a s))
  clear k0 k1 k2 k3 HG U V;obtain⟨g,t⟩:=nm (Nat.gcd P.natAbs D.natAbs);have a:=HU.o;rw[t] at a;obtain⟨J,p⟩:=Ia a t;have f:0<g:=by rw[<-t];exact Nat.gcd_pos_of_pos_right _ (by omega)
  have S:=H.o.below n.o;have ah:=a.len_mono H.o.den (by rw[<-t];exact Nat.le_of_dvd (by omega) (Nat.gcd_dvd_right _ _));clear HU;by_cases K:g=1
  .
   subst K;have Y:=Qer a.num;subst Y;obtain⟨Z,og,rfl,aa,q⟩:=a.row.cell 0 (by simp);have q:W.cell? ⟨Z,og,none⟩=some (.int .u32 1):=by simpa using q
   clear a t S;go_wp2;go_ret;obtain⟨u,L⟩:=Qld (P:=P) hD p.o;refine RatOk.of (Only.of_below n.o) ⟨rfl,Only.refl _ _,R,c1,G,some ⟨b',o',none⟩,c2,[d],?_⟩;rw[u,L];exact H.o.below n.o
  .
   have m:g ∣ P.natAbs:=by rw[<-t];exact Nat.gcd_dvd_left _ _
   have M:=Hi (Qbg R ag c1 X G rg P.natAbs g W S.num a f (by omega));rcases Qle a.num K with ai|⟨dd,rfl,aj⟩
   .
    clear a t S;go_wp2_with fail;refine M.o.mono ?_;rintro e w2 ⟨⟨v,x,y,ar,cr,rr,rfl,N,hr⟩,c⟩;have z:=(H.o.below n.o).below c;have ab:=z.c3;obtain⟨HQ,i,A⟩:=Ib N c (Qbg (some ⟨b',o',none⟩) _ c2 X ([d]) _ D.natAbs g w2 z.den (J.o.below c) f (by omega));clear N hr c z;go_wp2_with fail;refine A.o.mono ?_;rintro e B ⟨⟨j,C,rs,ad,ct,rt,rfl,O,ht⟩,k⟩;have H3:=((H.o.below n.o).below i.o).below k;have f1:=H3.sb.free 1;have f3:=H3.sb.free 3;have ae:=H3.c1;have af:=H3.c3;obtain⟨HS,r,l⟩:=Ib O k H3;clear O ht k H3;go_wp2;go_ret;have E:Only b B ((B.setCell ⟨b,1,none⟩ (.slice v y.length x)).setCell ⟨b,3,none⟩ (.slice j rs.length C)):=((Only.refl b B).setCell _ _).setCell _ _;have Q:g ∣ D.natAbs:=by rw[<-p.o];exact Nat.gcd_dvd_right _ _
    obtain⟨u,L⟩:=Qeu (P:=P) hD p.o;refine RatOk.of (Only.of_below (n.o.trans ((i.o.mono n.o.size).trans (r.o.mono (Nat.le_trans n.o.size i.o.size))))) ⟨rfl,E,v,x,y,j,C,rs,?_,?_,?_⟩
    .
     have:=(l.o.sb.set 1 (.slice v y.length x)).set 3 (.slice j rs.length C);have en:decide ((((mkRat P D.natAbs).den:Nat):Int)<0)=decide (D<0):=by
      apply decide_eq_decide.2;omega
     rw[u,Qet P g f m,en]
     simpa using this
    . rw[u,Qes P g f m]
      exact(HQ.o.below r.o).only E l.o.sb (Qan _ _ _ _ _ _ _ _)
    . rw[L,Int.natAbs_natCast]
      exact HS.o.only E l.o.sb (Qan _ _ _ _ _ _ _ _)
   .
    obtain⟨Z,og,rfl,aa,q⟩:=a.row.cell 0 (by simp);have q:W.cell? ⟨Z,og,none⟩=some (.int .u32 (dd:Int)):=by simpa using q
    have ak:((dd:Int) == 1)=false:=by rw[beq_eq_false_iff_ne];omega
    clear a t S;go_wp2_with fail;refine M.o.mono ?_;rintro e w2 ⟨⟨v,x,y,ar,cr,rr,rfl,N,hr⟩,c⟩;have z:=(H.o.below n.o).below c;have ab:=z.c3;obtain⟨HQ,i,A⟩:=Ib N c (Qbg (some ⟨b',o',none⟩) _ c2 X ([d]) _ D.natAbs g w2 z.den (J.o.below c) f (by omega));clear N hr c z;go_wp2_with fail;refine A.o.mono ?_;rintro e B ⟨⟨j,C,rs,ad,ct,rt,rfl,O,ht⟩,k⟩;have H3:=((H.o.below n.o).below i.o).below k;have f1:=H3.sb.free 1;have f3:=H3.sb.free 3;have ae:=H3.c1;have af:=H3.c3;obtain⟨HS,r,l⟩:=Ib O k H3;clear O ht k H3;go_wp2;go_ret;have E:Only b B ((B.setCell ⟨b,1,none⟩ (.slice v y.length x)).setCell ⟨b,3,none⟩ (.slice j rs.length C)):=((Only.refl b B).setCell _ _).setCell _ _;have Q:g ∣ D.natAbs:=by rw[<-p.o];exact Nat.gcd_dvd_right _ _
    obtain⟨u,L⟩:=Qeu (P:=P) hD p.o;refine RatOk.of (Only.of_below (n.o.trans ((i.o.mono n.o.size).trans (r.o.mono (Nat.le_trans n.o.size i.o.size))))) ⟨rfl,E,v,x,y,j,C,rs,?_,?_,?_⟩
    .
     have:=(l.o.sb.set 1 (.slice v y.length x)).set 3 (.slice j rs.length C);have en:decide ((((mkRat P D.natAbs).den:Nat):Int)<0)=decide (D<0):=by
      apply decide_eq_decide.2;omega
     rw[u,Qet P g f m,en]
     simpa using this
    . rw[u,Qes P g f m]
      exact(HQ.o.below r.o).only E l.o.sb (Qan _ _ _ _ _ _ _ _)
    . rw[L,Int.natAbs_natCast]
      exact HS.o.only E l.o.sb (Qan _ _ _ _ _ _ _ _)
 .
  have V:((F.length:Int) == 1)=false:=by rw[beq_eq_false_iff_ne];omega
  obtain⟨H,HG⟩:=Ia h (Qhp R (a2) c1 c2 G (F) P.natAbs D.natAbs w.drew h.num.drew h.den.drew (by omega) (by omega));have I:=h.sb.lt;clear h T;go_enter func151,ntmps151;go_wp2;go_region_held3 (fun w'=>w'.cell? ⟨b,1,none⟩=some (.slice R G.length c1)/\w'.cell? ⟨b,3,none⟩=some (.slice (a2) (F.length) c2)) ((simp [*]))
   (first
     |(go_at_call 202;refine HG.o.mono ?_;rintro e W ⟨⟨ag,X,rg,rfl,a⟩,s⟩;have d1:=ce s I k1;have d3:=ce s I k3;have HU:=Hi a;have n:=Hi ((Below.refl w.heap.size w).drew.trans s);clear a s))
  clear k0 k1 k2 k3 HG V;obtain⟨g,t⟩:=nm (Nat.gcd P.natAbs D.natAbs);have a:=HU.o;rw[t] at a;obtain⟨J,p⟩:=Ia a t;have f:0<g:=by rw[<-t];exact Nat.gcd_pos_of_pos_right _ (by omega)
  have S:=H.o.below n.o;have ah:=a.len_mono H.o.den (by rw[<-t];exact Nat.le_of_dvd (by omega) (Nat.gcd_dvd_right _ _));clear HU;by_cases K:g=1
  .
   subst K;have Y:=Qer a.num;subst Y;obtain⟨Z,og,rfl,aa,q⟩:=a.row.cell 0 (by simp);have q:W.cell? ⟨Z,og,none⟩=some (.int .u32 1):=by simpa using q
   clear a t S;go_wp2;go_ret;obtain⟨u,L⟩:=Qld (P:=P) hD p.o;refine RatOk.of (Only.of_below n.o) ⟨rfl,Only.refl _ _,R,c1,G,a2,c2,F,?_⟩;rw[u,L];exact H.o.below n.o
  .
   have m:g ∣ P.natAbs:=by rw[<-t];exact Nat.gcd_dvd_left _ _
   have M:=Hi (Qbg R ag c1 X G rg P.natAbs g W S.num a f (by omega));rcases Qle a.num K with ai|⟨dd,rfl,aj⟩
   .
    clear a t S;go_wp2_with fail;refine M.o.mono ?_;rintro e w2 ⟨⟨v,x,y,ar,cr,rr,rfl,N,hr⟩,c⟩;have z:=(H.o.below n.o).below c;have ab:=z.c3;obtain⟨HQ,i,A⟩:=Ib N c (Qbg (a2) _ c2 X (F) _ D.natAbs g w2 z.den (J.o.below c) f (by omega));clear N hr c z;go_wp2_with fail;refine A.o.mono ?_;rintro e B ⟨⟨j,C,rs,ad,ct,rt,rfl,O,ht⟩,k⟩;have H3:=((H.o.below n.o).below i.o).below k;have f1:=H3.sb.free 1;have f3:=H3.sb.free 3;have ae:=H3.c1;have af:=H3.c3;obtain⟨HS,r,l⟩:=Ib O k H3;clear O ht k H3;go_wp2;go_ret;have E:Only b B ((B.setCell ⟨b,1,none⟩ (.slice v y.length x)).setCell ⟨b,3,none⟩ (.slice j rs.length C)):=((Only.refl b B).setCell _ _).setCell _ _;have Q:g ∣ D.natAbs:=by rw[<-p.o];exact Nat.gcd_dvd_right _ _
    obtain⟨u,L⟩:=Qeu (P:=P) hD p.o;refine RatOk.of (Only.of_below (n.o.trans ((i.o.mono n.o.size).trans (r.o.mono (Nat.le_trans n.o.size i.o.size))))) ⟨rfl,E,v,x,y,j,C,rs,?_,?_,?_⟩
    .
     have:=(l.o.sb.set 1 (.slice v y.length x)).set 3 (.slice j rs.length C);have en:decide ((((mkRat P D.natAbs).den:Nat):Int)<0)=decide (D<0):=by
      apply decide_eq_decide.2;omega
     rw[u,Qet P g f m,en]
     simpa using this
    . rw[u,Qes P g f m]
      exact(HQ.o.below r.o).only E l.o.sb (Qan _ _ _ _ _ _ _ _)
    . rw[L,Int.natAbs_natCast]
      exact HS.o.only E l.o.sb (Qan _ _ _ _ _ _ _ _)
   .
    obtain⟨Z,og,rfl,aa,q⟩:=a.row.cell 0 (by simp);have q:W.cell? ⟨Z,og,none⟩=some (.int .u32 (dd:Int)):=by simpa using q
    have ak:((dd:Int) == 1)=false:=by rw[beq_eq_false_iff_ne];omega
    clear a t S;go_wp2_with fail;refine M.o.mono ?_;rintro e w2 ⟨⟨v,x,y,ar,cr,rr,rfl,N,hr⟩,c⟩;have z:=(H.o.below n.o).below c;have ab:=z.c3;obtain⟨HQ,i,A⟩:=Ib N c (Qbg (a2) _ c2 X (F) _ D.natAbs g w2 z.den (J.o.below c) f (by omega));clear N hr c z;go_wp2_with fail;refine A.o.mono ?_;rintro e B ⟨⟨j,C,rs,ad,ct,rt,rfl,O,ht⟩,k⟩;have H3:=((H.o.below n.o).below i.o).below k;have f1:=H3.sb.free 1;have f3:=H3.sb.free 3;have ae:=H3.c1;have af:=H3.c3;obtain⟨HS,r,l⟩:=Ib O k H3;clear O ht k H3;go_wp2;go_ret;have E:Only b B ((B.setCell ⟨b,1,none⟩ (.slice v y.length x)).setCell ⟨b,3,none⟩ (.slice j rs.length C)):=((Only.refl b B).setCell _ _).setCell _ _;have Q:g ∣ D.natAbs:=by rw[<-p.o];exact Nat.gcd_dvd_right _ _
    obtain⟨u,L⟩:=Qeu (P:=P) hD p.o;refine RatOk.of (Only.of_below (n.o.trans ((i.o.mono n.o.size).trans (r.o.mono (Nat.le_trans n.o.size i.o.size))))) ⟨rfl,E,v,x,y,j,C,rs,?_,?_,?_⟩
    .
     have:=(l.o.sb.set 1 (.slice v y.length x)).set 3 (.slice j rs.length C);have en:decide ((((mkRat P D.natAbs).den:Nat):Int)<0)=decide (D<0):=by
      apply decide_eq_decide.2;omega
     rw[u,Qet P g f m,en]
     simpa using this
    . rw[u,Qes P g f m]
      exact(HQ.o.below r.o).only E l.o.sb (Qan _ _ _ _ _ _ _ _)
    . rw[L,Int.natAbs_natCast]
      exact HS.o.only E l.o.sb (Qan _ _ _ _ _ _ _ _)
theorem Quk(b:Nat)(P D:Int)(d f:Vx)(c1 c2:Nat)(a c:Vy)(w:Vz)(h:RatAt w b P D d c1 a f c2 c)(k:0<D)(g:a.length<1099511627770)(i:c.length<1099511627770):
 Calls prog 151 #[.pointer (some ⟨b,0,none⟩)] w (RatOk w b (mkRat P D.natAbs)):=by
 by_cases j:P=0
 .
  subst j;rw[Rat.zero_mkRat];exact Quh b D d f c1 c2 a c w h k
 by_cases l:D=1
 .
  subst l;have e:mkRat P (1:Int).natAbs=(P:Rat):=by
   apply Rat.ext
   . rw[Rat.num_mkRat];simp
   . rw[Rat.den_mkRat];simp
  rw[e];exact Qui b P d f c1 c2 a c w h j
 . exact Quj b P D d f c1 c2 a c w h j k l g i
theorem Qdf(b:Nat)(I J K L:Value)(M N:Nat)(A:Int)(X:Vx)(c1:Nat)(O:Vy)(P Q:Nat)(B:Int)(Y:Vx)(c2:Nat)(F:Vy)(w:Vz)
 (R:SB w b 123 #[I,J,K,L]) (Z:NoInt #[I,J,K,L]) (S:IntAt w M N A X c1 O) (n:IntAt w P Q B Y c2 F) (hB:0<B) (h1:O.length<1099511627770) (h2:F.length<1099511627770):
 Calls prog 91 #[.pointer (some ⟨b,0,none⟩),.pointer (some ⟨M,N,none⟩),.pointer (some ⟨P,Q,none⟩)] w (RatOk w b (mkRat A B.natAbs)):=by
 have k1:=n.abs;have q1:((F.length:Int) == 0)=false:=by
  rw[beq_eq_false_iff_ne];have:=(n.num.num.len_zero (by decide)).2;omega
 obtain⟨HS,HN,HA,p⟩:=Ic R Z S n;have aa:=R.lt;have ab:=S.lt;have ad:=n.lt;clear R Z S n;go_enter func91,ntmps91;go_wp2_with fail;have j:Bl w (w.alloc (.cells #[.bool false,.slice none 0 0] 121)):=bR.alloc lZ _;refine(Qf7 w.heap.size 0 121 _ M N A X c1 O _ (SB.new w 121 _) Tryz.int_zero (by simp) (HA.o.below j) (by omega)).mono ?_;rintro e m ⟨rfl,q,r,s,G⟩;have k:=Only.fresh j G.only lZ;have ae:w.heap.size<m.heap.size:=by have:=G.only.size;simp at this;omega
 have f:Bl m (m.alloc (.cells #[.bool false,.slice none 0 0] 121)):=bR.alloc lZ _;obtain⟨T,HP,t,u⟩:=Ic (Qf7 m.heap.size 0 121 _ P Q B Y c2 F _ (SB.new m 121 _) Tryz.int_zero (by simp) ((p.o.below k).below f) (by omega)) G k f;clear G k j f;go_wp2_with fail;refine T.o.mono ?_;rintro e h ⟨rfl,v,x,y,U⟩;have g:=Only.fresh u.o U.only lZ;have c:=(HP.o.at (by simp)).below g;have d:=U.at (by simp);have a:=((HS.o.below t.o HS.o.lt).below g (by omega));have p0:=c.neg;have p1:=c.abs;have r0:=d.neg;have r1:=d.abs;have z0:h.cell? ⟨b,0,none⟩=some I:=by rw[a.cell];rfl
 have z1:h.cell? ⟨b,1,none⟩=some J:=by rw[a.cell];rfl
 have z2:h.cell? ⟨b,2,none⟩=some K:=by rw[a.cell];rfl
 have z3:h.cell? ⟨b,3,none⟩=some L:=by rw[a.cell];rfl
 have f0:=a.free 0;have f1:=a.free 1;have f2:=a.free 2;have f3:=a.free 3;obtain⟨z,C,l,V⟩:=Ic c d a g;clear U c d a g;simp only[Nat.zero_add] at p1 r1;go_wp2_with fail;have H:Only b h ((((h.setCell ⟨b,0,none⟩ (.bool (decide (A<0)))).setCell ⟨b,1,none⟩ (.slice q s.length r)).setCell ⟨b,2,none⟩ (.bool (decide (B<0)))).setCell ⟨b,3,none⟩ (.slice v y.length x)):=
  ((((Only.refl b h).setCell _ _).setCell _ _).setCell _ _).setCell _ _
 have i:RatAt ((((h.setCell ⟨b,0,none⟩ (.bool (decide (A<0)))).setCell ⟨b,1,none⟩ (.slice q s.length r)).setCell ⟨b,2,none⟩ (.bool (decide (B<0)))).setCell ⟨b,3,none⟩ (.slice v y.length x)) b A B q r s v x y:=by
  refine⟨?_,z.o.num.only H l.o HN.o,C.o.num.only H l.o HN.o⟩;have:=(((l.o.set 0 (.bool (decide (A<0)))).set 1 (.slice q s.length r)).set 2 (.bool (decide (B<0)))).set 3 (.slice v y.length x)
  simpa using this
 have af:=z.o.num.len_mono HA.o.num lZ;have ag:=C.o.num.len_mono p.o.num lZ;refine(Quk b A B q v r x s y _ i hB (by omega) (by omega)).mono ?_;rintro e w3 D;have E:=RatOk.of ((Only.of_below (t.o.trans (V.o.mono (by omega)))).trans H) D;obtain⟨rfl,W,hr⟩:=E;clear D H i;go_wp2;go_ret;exact⟨rfl,W,hr⟩
structure Step (b:Nat) (w w':Vz):Prop where
 only:Only b w w'
 noint:∀(i:Nat) (k:IntKind) (n:Int),w.cell? ⟨b,i,none⟩≠some (Value.int k n)
theorem Step.of_only{b:Nat}{w w':Vz}{t:Vr}{C:Vw}(h:Only b w w')(a:SB w b t C)(c:NoInt C):Step b w w':=⟨h,fun i k n=>by rw[a.cell];exact c i k n⟩
theorem Step.of_below{w w':Vz}(h:Bl w w'):Step w.heap.size w w':=
 ⟨Only.of_below h,fun i k n e=>by have:=World.block_lt_of_cell? w _ e;simp at this⟩
theorem Step.alloc(w:Vz)(o:Obj):Step w.heap.size w (w.alloc o):=Step.of_below (bR.alloc lZ _)
theorem Step.drew(w:Vz):Step w.heap.size w w.drew:=Step.of_below bR.drew
theorem Step.size{b:Nat}{w w':Vz}(h:Step b w w'):w.heap.size<=w'.heap.size:=h.only.size
theorem SB.step{w w':Vz}{b c:Nat}{t:Vr}{C:Vw}(h:SB w b t C)(k:Step c w w')(a:b≠c):SB w' b t C:=h.only k.only a
theorem Row.step{k:IntKind}{w w':Vz}{a:Vx}{d:Nat}{l:Vy}{b:Nat}(h:Row k w a d l)(f:Step b w w'):Row k w' a d l:=by
 refine⟨h.fit,?_,fun i o=>?_⟩
 .
  rcases h.shape with g|⟨e,c,rfl,m⟩
  . exact .inl g
  . exact .inr ⟨e,c,rfl,by have:=f.size;omega⟩
 .
  obtain⟨e,c,g,m,n⟩:=h.cell i o;have j:e≠b:=by
   rintro rfl;exact f.noint _ _ _ n
  exact⟨e,c,g,by have:=f.size;omega,(World.cell?_of_block (w:=w) (f.only.block e m j)).trans n⟩
theorem U32.step{w w':Vz}{a:Vx}{c:Nat}{l:Vy}{n b:Nat}(h:U32 w a c l n)(d:Step b w w'):U32 w' a c l n:=⟨h.row.step d,h.num,h.short⟩
theorem IntAt.step{w w':Vz}{b o c:Nat}{z:Int}{a:Vx}{d:Nat}{l:Vy}(h:IntAt w b o z a d l)(f:Step c w w')(e:b≠c):IntAt w' b o z a d l:=
 ⟨(World.cell?_of_block (w:=w) (a:=⟨b,o,none⟩) (f.only.block b h.lt e)).trans h.neg,(World.cell?_of_block (w:=w) (a:=⟨b,o+1,none⟩) (f.only.block b h.lt e)).trans h.abs,h.num.step f,by have:=h.lt;have:=f.size;omega⟩
theorem RatAt.step{w w':Vz}{b c:Nat}{P D:Int}{e f:Vx}{c1 c2:Nat}{g i:Vy}(h:RatAt w b P D e c1 g f c2 i)(a:Step c w w')(d:b≠c):RatAt w' b P D e c1 g f c2 i:=
 ⟨h.sb.step a d,h.num.step a,h.den.step a⟩
theorem SB.drew{w:Vz}{b:Nat}{t:Vr}{C:Vw}(h:SB w b t C):SB w.drew b t C:=h
theorem IntAt.alloc{w:Vz}{b o:Nat}{z:Int}{a:Vx}{c:Nat}{l:Vy}(h:IntAt w b o z a c l)(x:Obj):IntAt (w.alloc x) b o z a c l:=h.below (bR.alloc lZ _)
def DenOk(w:Vz)(b:Nat)(d:Int)(e:Ending)(w':Vz):Prop:=
 (∃b' o a cap l,e=.returned (.pointer (some ⟨b',o,none⟩))/\IntAt w' b' o d a cap l/\(b'=b∨w.heap.size<=b'))/\Below w.heap.size w w'
theorem Qlj(b:Nat)(P D d:Int)(p k:Vx)(c1 c2:Nat)(q c:Vy)(w:Vz)(h:RatAt w b P D p c1 q k c2 c)(m:D=d∨D=0/\d=1)(r:0<d):
 Calls prog 80 #[.pointer (some ⟨b,0,none⟩)] w (DenOk w b d):=by
 have x:=h.c3;by_cases n:D=0
 .
  have s:((c.length:Int) == 0)=true:=by
   have:=(h.den.num.len_zero (by decide)).1 (by omega);simp[this]
  have f:=Hi (show d=1 by omega);clear h m n;go_enter func80,ntmps80;go_wp2_with fail;refine(Qcm 1 _ (by decide) (by decide)).mono ?_;rintro e y ⟨⟨t,a,g,l,rfl,i,j,u⟩,v⟩;go_wp2;go_ret;refine⟨⟨t,0,a,g,l,rfl,?_,.inr i⟩,v⟩;rw[f.o];exact⟨by rw[j.cell];rfl,by rw[j.cell];rfl,u,j.lt⟩
 .
  have s:((c.length:Int) == 0)=false:=by
   rw[beq_eq_false_iff_ne];have:=(h.den.num.len_zero (by decide)).2;omega
  obtain⟨f,H⟩:=Ia (show D=d by omega) h;clear h m n;go_enter func80,ntmps80;go_wp2;go_ret;exact⟨⟨b,2,k,c2,c,rfl,by rw[<-f.o];exact H.o.lower,.inl rfl⟩,Below.refl _ _⟩
def zeroInt:Array Value:=#[.bool false,.slice none 0 0]
structure Thing where
 kind:Nat
 b:Nat
 o:Nat
 X:Int
 L:Nat
abbrev Thing.int(b o:Nat)(X:Int)(L:Nat):Thing:=⟨0,b,o,X,L⟩
abbrev Thing.rat(b:Nat)(d:Int)(L:Nat):Thing:=⟨1,b,0,d,L⟩
abbrev Thing.room(b:Nat):Thing:=⟨2,b,0,0,0⟩
def Thing.block:Thing->Nat
 |⟨_,b,_,_,_⟩=>b
def Thing.holds(w:Vz):Thing->Prop
 |⟨0,b,o,X,L⟩=>∃a cap l,IntAt w b o X a cap l/\l.length<=L
 |⟨1,b,_,d,L⟩=>∃P D a1 c1 l1 a2 c2 l2,RatAt w b P D a1 c1 l1 a2 c2 l2/\(D=d∨D=0/\d=1)/\0<d/\l2.length<=L
 |⟨_+2,b,_,_,_⟩=>∃s0 s1 s2 s3,SB w b 123 #[s0,s1,s2,s3]/\NoInt #[s0,s1,s2,s3]
theorem Thing.lt{w:Vz}{t:Thing}(h:t.holds w):t.block<w.heap.size:=by
 obtain⟨c,b,o,X,L⟩:=t
 match c,h with
 |0,h=>obtain⟨a,d,l,h,_⟩:=h;exact h.lt
 |1,h=>obtain⟨P,D,e,c1,f,g,c2,i,h,_⟩:=h;exact h.sb.lt
 |n+2,h=>obtain⟨j,k,m,p,h,_⟩:=h;exact SB.lt h
theorem Thing.step{w w':Vz}{t:Thing}{c:Nat}(h:t.holds w)(k:Step c w w')(d:t.block≠c):t.holds w':=by
 obtain⟨e,b,o,X,L⟩:=t
 match e,h with
 |0,h=>obtain⟨a,f,l,h,hl⟩:=h;exact⟨a,f,l,h.step k d,hl⟩
 |1,h=>obtain⟨P,D,i,c1,j,m,c2,p,h,g⟩:=h;exact⟨P,D,i,c1,j,m,c2,p,h.step k d,g⟩
 |n+2,h=>obtain⟨q,r,s,u,h,g⟩:=h;exact⟨q,r,s,u,SB.step h k d,g⟩
structure Bag (w0 w:Vz) (Z:Vy) (L:List Thing):Prop where
 base:Bl w0 w
 zs:∀n,n∈ Z->w0.heap.size<=n/\SB w n 121 zeroInt
 ts:∀t,t∈ L->t.holds w/\t.block ∉ Z
theorem Bag.drew{w0 w:Vz}{Z:Vy}{L:List Thing}(h:Bag w0 w Z L):Bag w0 w.drew Z L:=
 ⟨h.base.drew,fun n b=>⟨(h.zs n b).1,(h.zs n b).2.drew⟩,fun t a=>⟨Thing.step (h.ts t a).1 (Step.drew w) (by have:=Thing.lt (h.ts t a).1;omega),(h.ts t a).2⟩⟩
theorem Bag.alloc{w0 w:Vz}{Z:Vy}{L:List Thing}(h:Bag w0 w Z L):Bag w0 (w.alloc (.cells #[.bool false,.slice none 0 0] 121)) (w.heap.size :: Z) L:=by
 refine⟨h.base.alloc h.base.size _,fun n a=>?_,fun t b=>⟨Thing.step (h.ts t b).1 (Step.alloc w _) (by have:=Thing.lt (h.ts t b).1;omega),?_⟩⟩
 .
  rcases List.mem_cons.1 a with rfl|a
  . exact⟨h.base.size,SB.new w _ _⟩
  . exact⟨(h.zs n a).1,(h.zs n a).2.alloc _⟩
 .
  intro c;rcases List.mem_cons.1 c with c|c
  . have:=Thing.lt (h.ts t b).1;omega
  . exact(h.ts t b).2 c
def less(Z:Vy)(n:Nat):List Nat:=Z.filter fun m=>decide (m≠n)
theorem mem_less{Z:Vy}{n m:Nat}:m∈ less Z n↔m∈ Z/\m≠n:=by simp[less]
theorem Bag.lay{w0 w w':Vz}{Z:Vy}{L:List Thing}{n K:Nat}{X:Int}{e:Ending}(h:Bag w0 w Z L)(f:n∈ Z)(k:LaidOk w n 0 121 zeroInt X e w')(o:∀a b l,U32 w' a b l X.natAbs->l.length<=K):
 e=.returned (.pointer (some ⟨n,0,none⟩))/\Bag w0 w' (less Z n) (.int n 0 X K :: L):=by
 obtain⟨rfl,a,b,l,hl⟩:=k;have g:=h.zs n f;have i:=Step.of_only hl.only g.2 Tryz.int_zero;refine⟨rfl,h.base.trans (hl.only.below g.1 h.base.size),fun m p=>?_,fun t d=>?_⟩
 . obtain⟨j,q⟩:=mem_less.1 p
   exact⟨(h.zs m j).1,(h.zs m j).2.step i q⟩
 .
  rcases List.mem_cons.1 d with rfl|d
  . exact⟨⟨a,b,l,hl.at (by simp[zeroInt]),o a b l hl.num⟩,fun c=>(mem_less.1 c).2 rfl⟩
  . have:=h.ts t d
    exact⟨Thing.step this.1 i (fun c=>this.2 (c ▸ f)),fun c=>this.2 (mem_less.1 c).1⟩
theorem Bag.below{w0 w w':Vz}{Z:Vy}{L:List Thing}(h:Bag w0 w Z L)(k:Bl w w'):Bag w0 w' Z L:=by
 have c:=Step.of_below k;refine⟨h.base.trans (k.mono h.base.size),fun n a=>⟨(h.zs n a).1,(h.zs n a).2.below k (h.zs n a).2.lt⟩,fun t b=>⟨Thing.step (h.ts t b).1 c (by have:=Thing.lt (h.ts t b).1;omega),(h.ts t b).2⟩⟩
theorem Bag.put{w0 w:Vz}{Z:Vy}{L:List Thing}{t:Thing}(h:Bag w0 w Z L)(b:t.holds w)(c:t.block ∉ Z):Bag w0 w Z (t :: L):=
 ⟨h.base,h.zs,fun s a=>by
   rcases List.mem_cons.1 a with rfl|a
   . exact⟨b,c⟩
   . exact h.ts s a⟩
theorem U32.len_of{w f g:Vz}{a b c:Vx}{k1 k2 i:Nat}{l m r:Vy}{x y z:Nat}(h:U32 f a k1 l x)(k:U32 g b k2 m y)(j:U32 w c i r z)(o:z<=x*y∨z<=x+y):r.length<=l.length+m.length+1:=by
 apply j.num.length_le_of_lt (by decide);have d:=Qab (B:=4294967296) (by decide) h.num.small;have e:=Qab (B:=4294967296) (by decide) k.num.small;rw[h.num.eq] at d;rw[k.num.eq] at e;have q:x*y<4294967296 ^ (l.length+m.length):=by rw[Nat.pow_add];exact Nat.mul_lt_mul'' d e
 have s:4294967296 ^ l.length<=4294967296 ^ (l.length+m.length):=Nat.pow_le_pow_right (by decide) (by omega);have t:4294967296 ^ m.length<=4294967296 ^ (l.length+m.length):=Nat.pow_le_pow_right (by decide) (by omega);have n:4294967296 ^ (l.length+m.length+1)=4294967296 ^ (l.length+m.length)*4294967296:=Nat.pow_succ _ _;rw[n];generalize 4294967296 ^ (l.length+m.length)=p at*;omega
def LayOk(w0 w:Vz)(Z:Vy)(L:List Thing)(n:Nat)(X:Int)(K:Nat)(e:Ending)(w':Vz):Prop:=
 e=.returned (.pointer (some ⟨n,0,none⟩))/\Bag w0 w' (less Z n) (.int n 0 X K :: L)/\w.heap.size<=w'.heap.size/\n<w'.heap.size
theorem Bag.layOk{w0 w w':Vz}{Z:Vy}{L:List Thing}{n K:Nat}{X:Int}{e:Ending}(h:Bag w0 w Z L)(d:n∈ Z)(k:LaidOk w n 0 121 zeroInt X e w')(f:∀a b l,U32 w' a b l X.natAbs->l.length<=K):LayOk w0 w Z L n X K e w':=by
 have c:=h.lay d k f;refine⟨c.1,c.2,?_,?_⟩
 . obtain⟨_,a,b,l,hl⟩:=k;exact hl.only.size
 . obtain⟨_,a,b,l,hl⟩:=k;exact hl.sb.lt
theorem Bag.mul{w0 w:Vz}{Z:Vy}{L:List Thing}{n bx d f g i j:Nat}{X Y:Int}(h:Bag w0 w Z L)(c:n∈ Z)(t:.int bx d X i∈ L)(u:.int f g Y j∈ L)(hl:i+j<1099511627770):
 Calls prog 82 #[.pointer (some ⟨n,0,none⟩),.pointer (some ⟨bx,d,none⟩),.pointer (some ⟨f,g,none⟩)] w (LayOk w0 w Z L n (X*Y) (i+j+1)):=by
 obtain⟨⟨a,k,l,q,x⟩,o⟩:=h.ts _ t;obtain⟨⟨b,cap',m,s,y⟩,p⟩:=h.ts _ u;refine(Qro n 0 121 _ bx d X a k l f g Y b cap' m w (h.zs n c).2 Tryz.int_zero (by simp[zeroInt]) q s (fun e=>o (e ▸ c)) (fun e=>p (e ▸ c)) (by omega)).mono ?_;intro e w' hk;refine h.layOk c hk fun z A r v=>?_
 have:=q.num.len_of s.num v (.inl (by rw[Int.natAbs_mul];exact Nat.le_refl _));omega
theorem Bag.add{w0 w:Vz}{Z:Vy}{L:List Thing}{n bx d f g i j:Nat}{X Y:Int}(h:Bag w0 w Z L)(c:n∈ Z)(t:.int bx d X i∈ L)(u:.int f g Y j∈ L)(hl:i+j<1099511627770):
 Calls prog 134 #[.pointer (some ⟨n,0,none⟩),.pointer (some ⟨bx,d,none⟩),.pointer (some ⟨f,g,none⟩)] w (LayOk w0 w Z L n (X+Y) (i+j+1)):=by
 obtain⟨⟨a,k,l,q,x⟩,o⟩:=h.ts _ t;obtain⟨⟨b,cap',m,s,y⟩,p⟩:=h.ts _ u;refine(Qrn n 0 121 _ bx d X a k l f g Y b cap' m w (h.zs n c).2 Tryz.int_zero (by simp[zeroInt]) q s (fun e=>o (e ▸ c)) (fun e=>p (e ▸ c)) (by omega)).mono ?_;intro e w' hk;refine h.layOk c hk fun z A r v=>?_
 have:=q.num.len_of s.num v (.inr (by omega));omega
theorem Bag.set{w0 w:Vz}{Z:Vy}{L:List Thing}{n bx b g:Nat}{X:Int}(h:Bag w0 w Z L)(c:n∈ Z)(j:.int bx b X g∈ L):
 Calls prog 133 #[.pointer (some ⟨n,0,none⟩),.pointer (some ⟨bx,b,none⟩)] w (LayOk w0 w Z L n X g):=by
 obtain⟨⟨a,d,l,i,m⟩,f⟩:=h.ts _ j;refine(Qf7 n 0 121 _ bx b X a d l w (h.zs n c).2 Tryz.int_zero (by simp[zeroInt]) i (fun e=>f (e ▸ c))).mono ?_;intro e w' hk;refine h.layOk c hk fun o p r k=>?_
 have:=k.len_mono i.num lZ;omega
def DenLeft(w0 w:Vz)(Z:Vy)(L:List Thing)(d:Int)(K:Nat)(e:Ending)(w':Vz):Prop:=
 ∃b o,e=.returned (.pointer (some ⟨b,o,none⟩))/\Bag w0 w' Z (.int b o d K :: L)/\w.heap.size<=w'.heap.size
theorem Bag.den{w0 w:Vz}{Z:Vy}{L:List Thing}{b K:Nat}{d:Int}(h:Bag w0 w Z L)(r:.rat b d K∈ L):
 Calls prog 80 #[.pointer (some ⟨b,0,none⟩)] w (DenLeft w0 w Z L d (K+1)):=by
 obtain⟨⟨P,D,s,c1,t,u,c2,v,m,c,g,hl⟩,i⟩:=h.ts _ r;refine(Qlj b P D d s u c1 c2 t v w m c g).mono ?_;rintro e w' ⟨⟨j,o,a,k,l,rfl,n,p⟩,f⟩;refine⟨j,o,rfl,(h.below f).put ⟨a,k,l,n,?_⟩ ?_,f.size⟩
 .
  have:=n.num;rcases c with c|⟨_,c⟩
  .
   subst c;have:=this.len_mono m.den lZ;omega
  .
   subst c;have:=Qer this.num;rw[this];simp
 .
  intro q
  show False
  rcases p with rfl|p
  . exact i q
  .
   have:=(h.zs _ q).2.lt;have e:Thing.block (.int j o d (K+1))=j:=rfl;rw[e] at this;omega
theorem Bag.setFrac{w0 w:Vz}{Z:Vy}{L:List Thing}{c d f g i o p:Nat}{A B:Int}(h:Bag w0 w Z L)(q:.room c∈ L)(j:.int d f A o∈ L)(k:.int g i B p∈ L)(hB:0<B)(y:o<1099511627770)(z:p<1099511627770):
 Calls prog 91 #[.pointer (some ⟨c,0,none⟩),.pointer (some ⟨d,f,none⟩),.pointer (some ⟨g,i,none⟩)] w (RatOk w0 c (mkRat A B.natAbs)):=by
 obtain⟨⟨r,s,t,u,v,x⟩,_⟩:=h.ts _ q;obtain⟨⟨a,n,l,j,C⟩,_⟩:=h.ts _ j;obtain⟨⟨b,cap',m,k,D⟩,_⟩:=h.ts _ k;refine(Qdf c r s t u d f A a n l g i B b cap' m w v x j k hB (by omega) (by omega)).mono ?_;intro e w' hk;exact RatOk.of (Only.of_below h.base) hk
def RatVal(w:Vz)(b:Nat)(q:Rat):Prop:=∃D a1 c1 l1 a2 c2 l2,RatAt w b q.num D a1 c1 l1 a2 c2 l2/\(D=(q.den:Int)∨D=0/\(q.den:Int)=1)
def Fits(q:Rat)(k:Nat):Prop:=q.num.natAbs<2 ^ k/\q.den<2 ^ k
theorem Qbo(q:Rat):(0:Int)<(q.den:Int):=by have:=q.den_pos;omega
theorem RatVal.below{w w':Vz}{b:Nat}{q:Rat}(h:RatVal w b q)(a:Bl w w'):RatVal w' b q:=by
 obtain⟨D,c,c1,d,e,c2,f,h,g⟩:=h;exact⟨D,c,c1,d,e,c2,f,h.below a,g⟩
theorem RatVal.room{w:Vz}{b:Nat}{q:Rat}(h:RatVal w b q):(Thing.room b).holds w:=by
 obtain⟨D,a,c1,c,d,c2,e,h,f⟩:=h;exact⟨_,_,_,_,h.sb,Qan _ _ _ _ _ _ _ _⟩
theorem RatOk.val{w w':Vz}{b:Nat}{q:Rat}{e:Ending}(h:RatOk w b q e w'):RatVal w' b q:=by
 obtain⟨_,_,a,c1,c,d,c2,f,h⟩:=h;exact⟨_,a,c1,c,d,c2,f,h,.inl rfl⟩
theorem U32.len_bits{w:Vz}{a:Vx}{c:Nat}{l:Vy}{n k:Nat}(h:U32 w a c l n)(b:n<2 ^ k):l.length<=k:=by
 apply h.num.length_le_of_lt (by decide);refine Nat.lt_of_lt_of_le b ?_;exact Nat.pow_le_pow_left (by decide) k
theorem RatVal.int{w:Vz}{b:Nat}{q:Rat}{k:Nat}(h:RatVal w b q)(hk:Fits q k):(Thing.int b 0 q.num k).holds w:=by
 obtain⟨D,a,c1,c,d,c2,e,h,f⟩:=h;exact⟨a,c1,c,h.upper,h.num.len_bits hk.1⟩
theorem RatVal.rat{w:Vz}{b:Nat}{q:Rat}{k:Nat}(h:RatVal w b q)(hk:Fits q k):(Thing.rat b q.den k).holds w:=by
 obtain⟨D,c,c1,d,e,c2,f,h,a⟩:=h;refine⟨_,D,c,c1,d,e,c2,f,h,a,Qbo q,h.den.len_bits ?_⟩;rcases a with a|⟨a,_⟩
 . rw[a];exact hk.2
 . rw[a];exact Nat.two_pow_pos k
theorem Bag.two{w:Vz}{bx a b j k:Nat}{p q:Rat}(c:RatVal w bx p)(d:RatVal w a q)(h:(Thing.room b).holds w)(e:Fits p j)(f:Fits q k):
 Bag w w [] [.int bx 0 p.num j,.rat bx p.den j,.int a 0 q.num k,.rat a q.den k,.room b]:=by
 refine⟨Below.refl _ _,fun n i=>(by cases i),fun t g=>⟨?_,List.not_mem_nil⟩⟩;simp only[List.mem_cons,List.not_mem_nil,or_false] at g;rcases g with rfl|rfl|rfl|rfl|rfl
 . exact c.int e
 . exact c.rat e
 . exact d.int f
 . exact d.rat f
 . exact h
theorem Bag.one{w:Vz}{bx a j:Nat}{p:Rat}(b:RatVal w bx p)(e:(Thing.room a).holds w)(c:Fits p j):
 Bag w w [] [.int bx 0 p.num j,.rat bx p.den j,.room a]:=by
 refine⟨Below.refl _ _,fun n f=>(by cases f),fun t d=>⟨?_,List.not_mem_nil⟩⟩;simp only[List.mem_cons,List.not_mem_nil,or_false] at d;rcases d with rfl|rfl|rfl
 . exact b.int c
 . exact b.rat c
 . exact e
theorem Qgw(p q:Rat):mkRat (p.num*q.num) ((p.den:Int)*(q.den:Int)).natAbs=p*q:=by
 rw[Int.natAbs_mul,Int.natAbs_natCast,Int.natAbs_natCast,<-Rat.mkRat_mul_mkRat,Rat.mkRat_self,Rat.mkRat_self]
theorem Qgx(p q:Rat):mkRat (p.num*(q.den:Int)+q.num*(p.den:Int)) ((p.den:Int)*(q.den:Int)).natAbs=p+q:=by
 rw[Int.natAbs_mul,Int.natAbs_natCast,Int.natAbs_natCast,<-Rat.mkRat_add_mkRat _ _ p.den_nz q.den_nz,Rat.mkRat_self,Rat.mkRat_self]
theorem Qaj(w:Vz):w.drew.heap.size=w.heap.size:=rfl
theorem Qug(i bx n j k:Nat)(p q:Rat)(w:Vz)(r:(Thing.room i).holds w)(s:RatVal w bx p)(t:RatVal w n q)(u:Fits p j)(v:Fits q k)(B:j+k<274877906000):
 Calls prog 83 #[.pointer (some ⟨i,0,none⟩),.pointer (some ⟨bx,0,none⟩),.pointer (some ⟨n,0,none⟩)] w (RatOk w i (p*q)):=by
 have d:=Qbo p;have f:=Qbo q;obtain⟨g,y,b⟩:=Ib (Int.mul_pos d f) (Qgw p q) (Bag.two s t r u v);clear s t r u v d f;go_enter func83,ntmps83;go_wp2;go_region_held3 (fun _=>True) (trivial) (first
  |
   (go_at_call 82
    apply cM;apply Bag.mul (w0:=w);(focus(repeat(first|exact b.o|apply Bag.alloc|apply Bag.drew)));(focus(simp only[mem_less,List.mem_cons,List.not_mem_nil,or_false,Qaj,World.size_alloc,true_or,or_true,true_and,and_true]<;>omega));(focus(repeat(first|exact mH|apply mT)));(focus(repeat(first|exact mH|apply mT)));omega;rintro e x ⟨rfl,a,c,l⟩;clear b;have b:=Hi a;clear a
    (try simp only[Qaj,World.size_alloc] at c))
  |
   (go_at_call 80
    apply cM;apply Bag.den (w0:=w);(focus(repeat(first|exact b.o|apply Bag.alloc|apply Bag.drew)));(focus(repeat(first|exact mH|apply mT)));rintro e x ⟨C,D,rfl,a,c⟩;clear b;have b:=Hi a;clear a
    (try simp only[Qaj,World.size_alloc] at c))
  |
   (go_at_call 82
    apply cM;apply Bag.mul (w0:=w);(focus(repeat(first|exact b.o|apply Bag.alloc|apply Bag.drew)));(focus(simp only[mem_less,List.mem_cons,List.not_mem_nil,or_false,Qaj,World.size_alloc,true_or,or_true,true_and,and_true]<;>omega));(focus(repeat(first|exact mH|apply mT)));(focus(repeat(first|exact mH|apply mT)));omega;rintro e x ⟨rfl,a,c,l⟩;clear b;have b:=Hi a;clear a
    (try simp only[Qaj,World.size_alloc] at c))
  |
   (go_at_call 91
    apply cM;apply Bag.setFrac (w0:=w);(focus(repeat(first|exact b.o|apply Bag.alloc|apply Bag.drew)));(focus(repeat(first|exact mH|apply mT)));(focus(repeat(first|exact mH|apply mT)));(focus(repeat(first|exact mH|apply mT)));exact g.o;omega;omega;rintro e E h;have z:=Hi h;obtain⟨rfl,m,A⟩:=h
    clear b m A)
  )
 all_goals
  go_wp2;go_ret;rw[<-y.o];exact z.o
theorem Qt8(n bx s j k:Nat)(p q:Rat)(w:Vz)(t:(Thing.room n).holds w)(u:RatVal w bx p)(v:RatVal w s q)(x:Fits p j)(y:Fits q k)(E:j+k<274877906000):
 Calls prog 73 #[.pointer (some ⟨n,0,none⟩),.pointer (some ⟨bx,0,none⟩),.pointer (some ⟨s,0,none⟩)] w (RatOk w n (p+q)):=by
 have h:=Qbo p;have i:=Qbo q;obtain⟨f,A,b⟩:=Ib (Int.mul_pos h i) (Qgx p q) (Bag.two u v t x y);clear u v t x y h i;go_enter func73,ntmps73;go_wp2;go_region_held3 (fun _=>True) (trivial) (first
  |
   (go_at_call 82
    apply cM;apply Bag.mul (w0:=w);(focus(repeat(first|exact b.o|apply Bag.alloc|apply Bag.drew)));(focus(simp only[mem_less,List.mem_cons,List.not_mem_nil,or_false,Qaj,World.size_alloc,true_or,or_true,true_and,and_true]<;>omega));(focus(repeat(first|exact mH|apply mT)));(focus(repeat(first|exact mH|apply mT)));omega;rintro e m ⟨rfl,a,c,l⟩;clear b;have b:=Hi a;clear a
    (try simp only[Qaj,World.size_alloc] at c))
  |
   (go_at_call 80
    apply cM;apply Bag.den (w0:=w);(focus(repeat(first|exact b.o|apply Bag.alloc|apply Bag.drew)));(focus(repeat(first|exact mH|apply mT)));rintro e m ⟨B,C,rfl,a,c⟩;clear b;have b:=Hi a;clear a
    (try simp only[Qaj,World.size_alloc] at c))
  |
   (go_at_call 134
    apply cM;apply Bag.add (w0:=w);(focus(repeat(first|exact b.o|apply Bag.alloc|apply Bag.drew)));(focus(simp only[mem_less,List.mem_cons,List.not_mem_nil,or_false,Qaj,World.size_alloc,true_or,or_true,true_and,and_true]<;>omega));(focus(repeat(first|exact mH|apply mT)));(focus(repeat(first|exact mH|apply mT)));omega;rintro e m ⟨rfl,a,c,l⟩;clear b;have b:=Hi a;clear a
    (try simp only[Qaj,World.size_alloc] at c))
  |
   (go_at_call 91
    apply cM;apply Bag.setFrac (w0:=w);(focus(repeat(first|exact b.o|apply Bag.alloc|apply Bag.drew)));(focus(repeat(first|exact mH|apply mT)));(focus(repeat(first|exact mH|apply mT)));(focus(repeat(first|exact mH|apply mT)));exact f.o;omega;omega;rintro e D d;have z:=Hi d;obtain⟨rfl,g,r⟩:=d
    clear b g r)
  )
 all_goals
  go_wp2_with (first
   |
    (go_at_call 80
     apply cM;apply Bag.den (w0:=w);(focus(repeat(first|exact b.o|apply Bag.alloc|apply Bag.drew)));(focus(repeat(first|exact mH|apply mT)));rintro e m ⟨B,C,rfl,a,c⟩;clear b;have b:=Hi a;clear a
     (try simp only[Qaj,World.size_alloc] at c))
   |
    (go_at_call 82
     apply cM;apply Bag.mul (w0:=w);(focus(repeat(first|exact b.o|apply Bag.alloc|apply Bag.drew)));(focus(simp only[mem_less,List.mem_cons,List.not_mem_nil,or_false,Qaj,World.size_alloc,true_or,or_true,true_and,and_true]<;>omega));(focus(repeat(first|exact mH|apply mT)));(focus(repeat(first|exact mH|apply mT)));omega;rintro e m ⟨rfl,a,c,l⟩;clear b;have b:=Hi a;clear a
     (try simp only[Qaj,World.size_alloc] at c))
   |
    (go_at_call 91
     apply cM;apply Bag.setFrac (w0:=w);(focus(repeat(first|exact b.o|apply Bag.alloc|apply Bag.drew)));(focus(repeat(first|exact mH|apply mT)));(focus(repeat(first|exact mH|apply mT)));(focus(repeat(first|exact mH|apply mT)));exact f.o;omega;omega;rintro e D d;have z:=Hi d;obtain⟨rfl,g,r⟩:=d
     clear b g r)
   )
  go_ret;rw[<-A.o];exact z.o
def sgn3(X:Int):Int:=if X<0 then -1 else if X=0 then 0 else 1
def cmpZ(X Y:Int):Int:=if X<Y then -1 else if X=Y then 0 else 1
theorem Qlf(b:Nat)(w:Vz):
 Calls prog 70 #[.pointer (some ⟨b,0,none⟩)] w fun e w'=>e=.returned (.pointer (some ⟨b,0,none⟩))/\w'=w:=by
 go_enter func70,ntmps70;go_wp2;go_ret;exact⟨rfl,rfl⟩
theorem Qul(X Y:Int)(a:X<0)(b:Y<0):cmpZ X Y= -(cmp3 X.natAbs Y.natAbs):=by
 have c:X.natAbs<Y.natAbs↔Y<X:=by omega
 have d:X.natAbs=Y.natAbs↔X=Y:=by omega
 unfold cmpZ cmp3;rcases Int.lt_trichotomy X Y with h|h|h
 . rw[if_pos h,if_neg (by omega),if_neg (by omega)]
 . rw[if_neg (by omega),if_pos h,if_neg (by omega),if_pos (by omega)];rfl
 . rw[if_neg (by omega),if_neg (by omega),if_pos (by omega)];rfl
theorem Qum(X Y:Int)(a:0<=X)(b:0<=Y):cmpZ X Y=cmp3 X.natAbs Y.natAbs:=by
 unfold cmpZ cmp3;rcases Int.lt_trichotomy X Y with h|h|h
 . rw[if_pos h,if_pos (by omega)]
 . rw[if_neg (by omega),if_pos h,if_neg (by omega),if_pos (by omega)]
 . rw[if_neg (by omega),if_neg (by omega),if_neg (by omega),if_neg (by omega)]
theorem Qun(z:Int)(a: -1<=z)(b:z<=1):wrap64 z=z:=by unfold wrap64;omega
theorem neg3(x y:Nat):Ending.returned (.int .i64 (wrap64 (-cmp3 x y)))=Ending.returned (.int .i64 (-cmp3 x y)):=by
 have h:=Qoq x y;rw[Qun _ (by omega) (by omega)]
theorem Qlg(bx q:Nat)(X:Int)(a:Vx)(f:Nat)(l:Vy)(r s:Nat)(Y:Int)(b:Vx)(cap':Nat)(m:Vy)(w:Vz)(n:IntAt w bx q X a f l)(p:IntAt w r s Y b cap' m):
 Calls prog 81 #[.pointer (some ⟨bx,q,none⟩),.pointer (some ⟨r,s,none⟩)] w fun e w'=>e=.returned (.int .i64 (cmpZ X Y))/\Below w.heap.size w w':=by
 have k:=n.neg;have k1:=n.abs;have t:=p.neg;have v:=p.abs;have g:=n.lt;have i:=p.lt;obtain⟨x,y⟩:=Ia n.num p.num;clear n p;by_cases c:decide (X<0)=decide (Y<0)
 .
  by_cases h:X<0
  .
   rw[show decide (X<0)=true by simpa using h] at k;rw[show decide (Y<0)=true by simp at c ⊢;omega] at t;have j:=Hi (Qul X Y (by omega) (by simp at c;omega));clear c h;go_enter func81,ntmps81;go_wp2_with fail;go_region;go_wp2_with fail;go_region_held3 (fun w'=>w'.cell? ⟨bx,q+1,none⟩=some (.slice a l.length f)/\w'.cell? ⟨r,s+1,none⟩=some (.slice b m.length cap')) ((simp [*])) (first|(go_at_call 136;refine(Qbf a b f cap' l m X.natAbs Y.natAbs _ ?_ ?_).mono ?_;exact x.o.below ((bR.drew).drew);exact y.o.below ((bR.drew).drew);rintro e z ⟨rfl,d⟩;have u:=Hi (((Below.refl w.heap.size w).drew.drew).trans d);have d0:=ce d g k;have d1:=ce d g k1;have d2:=ce d i v;clear d));go_wp2;go_ret;exact⟨by rw[j.o];exact neg3 _ _,u.o⟩
  .
   rw[show decide (X<0)=false by simpa using h] at k;rw[show decide (Y<0)=false by simp at c ⊢;omega] at t;have j:=Hi (Qum X Y (by omega) (by simp at c;omega));clear c h;go_enter func81,ntmps81;go_wp2_with fail;go_region;go_wp2_with fail;go_region_held3 (fun w'=>w'.cell? ⟨bx,q+1,none⟩=some (.slice a l.length f)/\w'.cell? ⟨r,s+1,none⟩=some (.slice b m.length cap')) ((simp [*])) (first|(go_at_call 136;refine(Qbf a b f cap' l m X.natAbs Y.natAbs _ ?_ ?_).mono ?_;exact x.o.below ((bR.drew).drew);exact y.o.below ((bR.drew).drew);rintro e z ⟨rfl,d⟩;have u:=Hi (((Below.refl w.heap.size w).drew.drew).trans d);have d0:=ce d g k;have d1:=ce d g k1;have d2:=ce d i v;clear d));go_wp2;go_ret;exact⟨by rw[j.o];rfl,u.o⟩
 .
  by_cases h:X<0
  .
   rw[show decide (X<0)=true by simpa using h] at k;rw[show decide (Y<0)=false by simp at c ⊢;omega] at t;have j:=Hi (show cmpZ X Y= -1 by unfold cmpZ;rw[if_pos (by simp at c;omega)]);clear c h;go_enter func81,ntmps81;go_wp2_with fail;go_region;go_wp2;go_ret;exact⟨by rw[j.o];rfl,bR.drew⟩
  .
   rw[show decide (X<0)=false by simpa using h] at k;rw[show decide (Y<0)=true by simp at c ⊢;omega] at t;have j:=Hi (show cmpZ X Y=1 by unfold cmpZ;rw[if_neg (by simp at c;omega),if_neg (by simp at c;omega)]);clear c h;go_enter func81,ntmps81;go_wp2_with fail;go_region;go_wp2;go_ret;exact⟨by rw[j.o];rfl,bR.drew⟩
theorem Quo(X:Int): -X=if (!decide (X<0))=true then -(X.natAbs:Int) else (X.natAbs:Int):=by
 by_cases h:X<0
 . simp[h];omega
 . simp[h];omega
theorem Qup(c d:Nat)(t:Vr)(C:Vw)(X:Int)(a:Vx)(f:Nat)(l:Vy)(w:Vz)(n:SB w c t C)(p:NoInt C)(r:d+1<C.size)(g:IntAt w c d X a f l):
 Calls prog 153 #[.pointer (some ⟨c,d,none⟩),.pointer (some ⟨c,d,none⟩)] w (LaidOk w c d t C (-X)):=by
 have s:=g.neg;have k1:=g.abs;have h:=g.lt;obtain⟨q,u,v⟩:=Ib n p g.num;clear n p g;go_enter func153,ntmps153;go_wp2;go_region_with (first
  |(go_at_call 191;refine(Qdt a f l X.natAbs _ ?_).mono ?_;exact v.o.drew;rintro e z ⟨⟨x,i,rfl,j⟩,b⟩;have A:=ce b h s;have c1:=ce b h k1;have m:=Hi j;have k:=Hi ((Below.refl w.heap.size w).drew.trans b);clear j b)
  |(go_at_call 137;refine(Qcl c d t C _ x i l X.natAbs (-X) _ ?_ u.o r m.o ?_).mono ?_;exact q.o.below k.o q.o.lt;exact Quo X;rintro e B ⟨rfl,hl⟩;have y:=Hi hl;clear hl))
 all_goals
  go_wp2;go_ret;exact LaidOk.of (Only.of_below k.o) ⟨rfl,_,_,_,y.o⟩
theorem Quq(f bx j:Nat)(p:Rat)(w:Vz)(h:(Thing.room f).holds w)(i:RatVal w bx p)(k:Fits p j)(r:j<549755813000):
 Calls prog 152 #[.pointer (some ⟨f,0,none⟩),.pointer (some ⟨bx,0,none⟩)] w (RatOk w f p):=by
 obtain⟨b,l,c⟩:=Ib (Qbo p) (show mkRat p.num (p.den:Int).natAbs=p by rw[Int.natAbs_natCast,Rat.mkRat_self]) (Bag.one i h k);clear i h k;go_enter func152,ntmps152;go_wp2;go_region_held3 (fun _=>True) (trivial) (first
  |(
   go_at_call 80;apply cM;apply Bag.den (w0:=w);(focus(repeat(first|exact c.o|apply Bag.alloc|apply Bag.drew)));(focus(repeat(first|exact mH|apply mT)));rintro e s ⟨t,u,rfl,a,m⟩;clear c;have c:=Hi a
   clear a)
  |(
   go_at_call 91;apply cM;apply Bag.setFrac (w0:=w);(focus(repeat(first|exact c.o|apply Bag.alloc|apply Bag.drew)));(focus(repeat(first|exact mH|apply mT)));(focus(repeat(first|exact mH|apply mT)));(focus(repeat(first|exact mH|apply mT)));exact b.o;omega;omega;rintro e v d;have n:=Hi d;obtain⟨rfl,g,q⟩:=d
   clear c g q))
 go_wp2;go_ret;rw[<-l.o];exact n.o
theorem Qlh(b bx j:Nat)(p:Rat)(w:Vz)(k:(Thing.room b).holds w)(m:RatVal w bx p)(n:Fits p j)(q:j<549755813000):
 Calls prog 92 #[.pointer (some ⟨b,0,none⟩),.pointer (some ⟨bx,0,none⟩)] w (RatOk w b (-p)):=by
 have d:=Hi (Quq b bx j p w k m n q);clear m k n q;go_enter func92,ntmps92;go_wp2_with fail;refine d.o.mono ?_;rintro e x ⟨rfl,c,s,c1,t,u,c2,v,r⟩;obtain⟨f,h⟩:=Ia r c;clear r c d;go_wp2_with fail;have d:=Hi (Qup b 0 123 _ p.num s c1 t _ f.o.sb.drew (Qan _ _ _ _ _ _ _ _) (by simp) f.o.drew.upper);go_region_held3 (fun _=>True) (trivial) (first
  |(
   go_at_call 153;refine d.o.mono ?_;rintro e y ⟨rfl,a,i,l,hl⟩;have g:=Hi hl
   clear hl))
 go_wp2;go_ret;refine⟨rfl,h.o.drew.trans g.o.only,a,i,l,u,c2,v,?_,?_,?_⟩
 .
  have:=g.o.sb;rw[Rat.neg_num,Rat.neg_den]
  simpa [putInt] using this
 . rw[Rat.neg_num];exact g.o.num
 . rw[Rat.neg_den];exact f.o.den.drew.only g.o.only f.o.sb.drew (Qan _ _ _ _ _ _ _ _)
theorem Qli(b:Nat)(q:Rat)(w:Vz)(A:RatVal w b q):
 Calls prog 69 #[.pointer (some ⟨b,0,none⟩)] w fun e w'=>e=.returned (.bool (decide (q.den=1)))/\Below w.heap.size w w':=by
 obtain⟨D,B,c1,C,E,c2,F,h,s⟩:=A;obtain⟨H,G⟩:=Ia h s;have I:=Hi (show (cmpZ (q.den:Int) 1 == 0)=decide (q.den=1) by
  unfold cmpZ;by_cases t:q.den=1
  . rw[if_neg (by omega),if_pos (by omega)];simp[t]
  . have:=q.den_pos
    rw[if_neg (by omega),if_neg (by omega)];simp[t])
 clear h s;go_enter func69,ntmps69;go_wp2_with fail;refine(Qlj b q.num D q.den B E c1 c2 C F w H.o G.o (Qbo q)).mono ?_;rintro e M ⟨⟨J,o,a,m,l,rfl,u,j⟩,g⟩;obtain⟨K,d⟩:=Ia u g;clear u j g;go_wp2_with fail;refine(Qcm 1 _ (by decide) (by decide)).mono ?_;rintro e L ⟨⟨v,x,c,y,rfl,n,k,z⟩,j⟩;obtain⟨p,f⟩:=Ia (show IntAt L v 0 1 x c y from ⟨by rw[k.cell];rfl,by rw[k.cell];rfl,z,k.lt⟩) j;clear n k z j;go_wp2_with fail;refine(Qlg J o q.den a m l v 0 1 x c y _ (K.o.below f.o) p.o).mono ?_;rintro e N ⟨rfl,i⟩;have r:=Hi i;clear i;go_wp2;go_ret;refine⟨by rw[<-I.o];rfl,(d.o.trans (f.o.mono d.o.size)).trans (r.o.mono (Nat.le_trans d.o.size f.o.size))⟩
theorem Qur(b:Nat)(q:Rat)(w:Vz)(p:RatVal w b q):
 Calls prog 72 #[.pointer (some ⟨b,0,none⟩)] w fun e w'=>(∃i a f l,e=.returned (.pointer (some ⟨i,0,none⟩))/\IntAt w' i 0 q.den a f l)/\Below w.heap.size w w':=by
 obtain⟨D,r,c1,s,u,c2,j,h,k⟩:=p;have d:O (Bag w w [] [.rat b q.den j.length]):=Hi ⟨Below.refl _ _,fun n v=>(by cases v),fun t g=>by
  rcases List.mem_cons.1 g with rfl|g
  . exact⟨⟨_,D,r,c1,s,u,c2,j,h,k,Qbo q,Nat.le_refl _⟩,List.not_mem_nil⟩
  . cases g⟩
 clear h k;go_enter func72,ntmps72;go_wp2_with (first
  |(
   go_at_call 80;apply cM;apply Bag.den (w0:=w);(focus(repeat(first|exact d.o|apply Bag.alloc|apply Bag.drew)));(focus(repeat(first|exact mH|apply mT)));rintro e x ⟨B,C,rfl,c,y⟩;clear d;have d:=Hi c
   clear c)
  |(
   go_at_call 133;apply cM;apply Bag.set (w0:=w);(focus(repeat(first|exact d.o|apply Bag.alloc|apply Bag.drew)));exact List.Mem.head _;(focus(repeat(first|exact mH|apply mT)));rintro e x ⟨rfl,c,m,z⟩;clear d;have d:=Hi c
   clear c))
 go_ret;obtain⟨⟨a,f,l,A,hl⟩,_⟩:=d.o.ts _ (List.Mem.head _);exact⟨⟨_,a,f,l,rfl,A⟩,d.o.base⟩
def decVal(l:List UInt8):Nat:=l.foldl (fun a c=>10*a+(c.toNat - 48)) 0
theorem Qol(l:List UInt8)(a:Nat):l.foldl (fun a c=>10*a+(c.toNat - 48)) a=a*10 ^ l.length+decVal l:=by
 induction l generalizing a with
 |nil=>simp[decVal]
 |cons c l b=>
  unfold decVal;rw[List.foldl_cons,List.foldl_cons,b,b (10*0+(c.toNat - 48)),List.length_cons,Nat.pow_succ,Nat.add_mul,Nat.mul_comm 10 a,Nat.mul_assoc,Nat.mul_comm 10 (10 ^ l.length),Nat.mul_zero,Nat.zero_add];omega
theorem Qce(l m:List UInt8):decVal (l++m)=decVal l*10 ^ m.length+decVal m:=by
 conv=>lhs;unfold decVal
 rw[List.foldl_append];exact Qol m _
theorem Qdv(l:List UInt8)(c:UInt8):decVal (l++ [c])=10*decVal l+(c.toNat - 48):=by
 unfold decVal;rw[List.foldl_append];rfl
def AllDigits(l:List UInt8):Prop:=∀c,c∈ l→48≤c.toNat∧c.toNat≤57
theorem Qa1(l:List UInt8)(h:AllDigits l):decVal l<10 ^ l.length:=by
 induction l with
 |nil=>simp[decVal]
 |cons c l a=>
  have f:=h c (List.mem_cons_self ..);have g:=a fun d b=>h d (List.mem_cons_of_mem _ b)
  have e:decVal (c :: l)=(c.toNat - 48)*10 ^ l.length+decVal l:=by
   have:=Qce [c] l
   simpa [decVal] using this
  rw[e,List.length_cons,Nat.pow_succ];have:(c.toNat - 48)*10 ^ l.length≤9*10 ^ l.length:=Nat.mul_le_mul_right _ (by omega);omega
theorem Qh1(k:Nat):10 ^ k≤2 ^ (4*k):=by
 rw[Nat.pow_mul];exact Nat.pow_le_pow_left (by decide) k
theorem Qfp(s:ByteArray)(k:Nat)(h:k<s.size):s.data.toList.take (k+1)=s.data.toList.take k++ [s[k]]:=by
 rw[List.take_succ_eq_append_getElem (by simpa using h)];rfl
theorem Qfq{s:ByteArray}(a:AllDigits s.data.toList)(k:Nat)(h:k<s.size):48≤s[k].toNat∧s[k].toNat≤57:=
 a _ (List.mem_iff_getElem.2 ⟨k,by simpa using h,rfl⟩)
theorem AllDigits.take{l:List UInt8}(h:AllDigits l)(k:Nat):AllDigits (l.take k):=fun c a=>h c (List.mem_of_mem_take a)
def IsDec(l:List UInt8)(n:Nat):Prop:=(n=0∧l= [48])∨(n≠0∧∃ds,Num 10 ds n∧l=ds.reverse.map (fun d=>UInt8.ofNat (48+d)))
theorem IsDec.inj{l m:List UInt8}{n:Nat}(h:IsDec l n)(k:IsDec m n):l=m:=by
 rcases h with ⟨b,rfl⟩|⟨b,d,h,rfl⟩
 ·
  rcases k with ⟨a,rfl⟩|⟨a,c,k,rfl⟩
  · rfl
  · omega
 ·
  rcases k with ⟨a,rfl⟩|⟨a,c,k,rfl⟩
  · omega
  · rw[h.inj (by decide) k]
def IntText(l:List UInt8)(X:Int):Prop:=∃m,IsDec m X.natAbs∧l=if X<0 then 45 :: m else m
theorem IntText.inj{l m:List UInt8}{X:Int}(h:IntText l X)(k:IntText m X):l=m:=by
 obtain⟨a,c,rfl⟩:=h;obtain⟨b,d,rfl⟩:=k;rw[c.inj d]
theorem Qom{a:List Nat}{k x:Nat}(b:Small 10 a)(hk:a.length=k)(c:val 10 a=x)(e:10 ^ (k - 1)≤x)(h:0<k):Num 10 a x:=by
 refine⟨b,?_,c⟩;right;intro d;obtain⟨j,rfl⟩:∃j,k=j+1:=⟨k - 1,by omega⟩;have f:=Qbv 10 a j (by omega);rw[hk,Nat.add_sub_cancel] at d;rw[d,Nat.mul_zero,Nat.add_zero,List.take_of_length_le (by omega),c] at f;have g:=Qab (B:=10) (by decide) (b.take j);rw[List.length_take,Nat.min_eq_left (by omega)] at g;rw[Nat.add_sub_cancel] at e;omega
theorem U32.len_dec{w:Vz}{a:Vx}{c:Nat}{l:Vy}{n k:Nat}(h:U32 w a c l n)(b:n<10 ^ k):l.length<=4*k:=
 h.len_bits (Nat.lt_of_lt_of_le b (Qh1 k))
theorem Qjo(c:UInt8)(a:48<=c.toNat)(b:c.toNat<=57):∃d:Nat,d<=9/\c.toNat - 48=d/\(c.toNat:Int)=48+d:=⟨c.toNat - 48,by omega,rfl,by omega⟩
theorem Qcn(j:Nat)(s:Vs)(w:Vz)(R:SB w j 121 zeroInt)(X:0<s.size)(Y:s.size<=1073741824)(I:AllDigits s.data.toList):
 Calls prog 89 #[.pointer (some ⟨j,0,none⟩),.string s,.int .i64 10] w fun e w'=>e=.returned (.tuple #[.pointer (some ⟨j,0,none⟩),.bool true])/\∃a b l,Laid w w' j 0 121 zeroInt (decVal s.data.toList) a b l:=by
 obtain⟨S,T⟩:=Ia R I;have J:=Qfq I 0 X;have q1:((s[0].toNat:Int) == 45)=false:=by rw[beq_eq_false_iff_ne];omega
 have q2:((s[0].toNat:Int) == 43)=false:=by rw[beq_eq_false_iff_ne];omega
 have q3:((s.size:Int) == 0)=false:=by rw[beq_eq_false_iff_ne];omega
 clear R I;go_enter func89,ntmps89;go_wp2;go_loopw [9,10] (fun r i wr=>∃(k:Nat) (a:Vx) (b:Nat) (l:Vy),k<=s.size/\i=.int .i64 k/\r=.slice a l.length b/\U32 wr a b l (decVal (s.data.toList.take k))/\Below w.heap.size w wr) (fun _ i _=>s.size - (intOf i).toNat)
 case atStart=>exact⟨0,none,0,[],by omega,rfl,rfl,⟨Row.nil _ _,by simpa [decVal] using Num.zero _,by simp⟩,Below.refl _ _⟩
 case round=>
  obtain⟨k,a,b,l,hk,rfl,rfl,U,V⟩:=hrel;obtain⟨G,H⟩:=Ia U V;clear U V;by_cases m:k<s.size
  .
   have c:=Qfq T.o k m;have Z:=Hi (Qfp s k m);obtain⟨d,aa,n,ab⟩:=Qjo s[k] c.1 c.2;have K:=Hi n;have b0:(0:Int)<=(k:Int):=by omega
   have b1:(k:Int)<(s.size:Int):=by omega
   clear n;have ad:(48:Int)+(d:Int) - 48=d:=by omega
   have p:=Hi (Qa1 _ (T.o.take k));have W:l.length<=4294967296:=by
    have h1:=G.o.len_dec p.o;have h2:(s.data.toList.take k).length<=k:=by rw[List.length_take];omega
    omega
   clear c J;go_wp2_with fail;refine(Qbt 10 _ (by decide) (by decide)).mono ?_;rintro e w1 ⟨⟨a1,q,r1,rfl,t,ae⟩,u⟩;obtain⟨v,f⟩:=Ia t u;clear t u;go_wp2_with fail;refine(Qhr a a1 b q l r1 _ _ _ (G.o.below f.o) v.o (by omega)).mono ?_;rintro e w2 ⟨⟨a2,x,r2,rfl,g⟩,y⟩;have af:=G.o.len_of v.o g (.inl lZ);obtain⟨L,z⟩:=Ia g y;clear g y;go_wp2_with fail;refine(Qbt (d:Int) _ (by omega) (by omega)).mono ?_;rintro e w3 ⟨⟨a3,A,r3,rfl,B,ag⟩,C⟩;obtain⟨M,h⟩:=Ia B C;clear B C;go_wp2_with fail;refine(Qho a2 a3 x A r2 r3 _ _ _ (L.o.below h.o) M.o (by omega) (by omega)).mono ?_;rintro e w4 ⟨⟨a4,D,r4,rfl,E⟩,F⟩;obtain⟨N,O⟩:=Ia E F;clear E F;go_wp2;go_roundw
   case rel=>
    have s1:=H.o.size;have s2:=f.o.size;have s3:=z.o.size;have s4:=h.o.size;refine⟨k+1,a4,D,r4,by omega,by go_num,rfl,?_,(((H.o.trans (f.o.mono (by omega))).trans (z.o.mono (by omega))).trans (h.o.mono (by omega))).trans (O.o.mono (by omega))⟩;have e:decVal (s.data.toList.take (k+1))=decVal (s.data.toList.take k)*(10:Int).toNat+(d:Int).toNat:=by
     rw[Z.o,Qdv,K.o];simp;omega
    rw[e];exact N.o
   case measure=>simp[intOf];omega
  .
   have P:k=s.size:=by omega
   subst P;go_wp2_with fail;refine(Qcl j 0 121 zeroInt false a b l _ (decVal s.data.toList) _ (S.o.below H.o S.o.lt) Tryz.int_zero (by simp[zeroInt]) G.o ?_).mono ?_
   . rw[show s.data.toList.take s.size=s.data.toList from List.take_of_length_le (by simp)]
     simp
   rintro e w1 ⟨rfl,hl⟩;have HL:=Hi hl;clear hl;go_wp2;go_ret2;obtain⟨_,a',c',l',Q⟩:=LaidOk.of (Only.of_below H.o) ⟨rfl,_,_,_,HL.o⟩;exact⟨rfl,a',c',l',Q⟩
theorem Qn5(g n a x:Nat)(rs:Vy)(w:Vz)(h:Blk .u32 233 w g rs)(hl:rs.length=n)(j:Small 4294967296 rs)(k:n<=a)(m:n<=1099511627776)(l:val 4294967296 rs=x):
 Calls prog 194 #[.slice (some ⟨g,0,none⟩) n a] w fun e w'=>(∃r,e=.returned (.slice (some ⟨g,0,none⟩) r.length a)/\U32 w (some ⟨g,0,none⟩) a r x)/\w'=w:=by
 have c:=h.row n (by omega) a k;rw[List.take_of_length_le (by omega)] at c;have i:=Qhu (some ⟨g,0,none⟩) a rs w c (by omega);rw[hl] at i;refine i.mono ?_;rintro e o ⟨⟨q,p,rfl,d,f⟩,rfl⟩;have b:(rs.take q).length=q:=by rw[List.length_take];omega
 exact⟨⟨rs.take q,by rw[b],c.take q (by omega),⟨j.take q,f,d.trans l⟩,by rw[b];omega⟩,rfl⟩
theorem Qn6(a:Vx)(c d:Nat)(l:Vy)(x:Nat)(w:Vz)(h:U32 w a c l x)(g:0<d)(hd:d<4294967296):
 Calls prog 192 #[.slice a l.length c,.int .u32 d] w fun e w'=>(∃c r,e=.returned (.tuple #[.slice (some ⟨w.heap.size,0,none⟩) r.length c,.int .u32 (x % d:Nat)])/\U32 w' (some ⟨w.heap.size,0,none⟩) c r (x / d))/\Below w.heap.size w w':=by
 have s1:=h.short;have D:=
  fun w=>Qa5 _ l.length rfl (by omega) w
 go_enter func192,ntmps192;go_wp2;clear D;go_loopw [7,8] (fun r i wr=>∃(k f:Nat) (rs:Vy),k<=l.length/\f<d/\r=.int .u64 f/\i=.int .i64 ((k:Int) - 1)/\Blk .u32 233 wr w.heap.size rs/\rs.length=l.length/\Small 4294967296 rs/\
  val 4294967296 (rs.drop k)*d+f=val 4294967296 (l.drop k)/\Below w.heap.size w wr) (fun _ i _=>(intOf i+1).toNat)
 case atStart=>exact⟨l.length,0,zeros l.length,Nat.le_refl _,g,rfl,rfl,Blk.new _ _ _ _,Qag _,Qam _ _ (by omega),by rw[List.drop_of_length_le (by rw[Qag];exact Nat.le_refl _),List.drop_of_length_le lZ];simp[val],bR.alloc lZ _⟩
 case round=>
  obtain⟨k,r,rs,hk,K,rfl,rfl,hB,n,y,L,E⟩:=hrel;have M:O (val 4294967296 (rs.drop k)*d+r=val 4294967296 (l.drop k)):=L;have p:O (rs.length=l.length):=n;have N:O (Blk .u32 233 wr w.heap.size rs):=hB;have A:O (Small 4294967296 rs):=y;clear L y;by_cases U:k=0
  .
   subst U;have B:=M.o;simp only[List.drop_zero,h.num.eq] at B;have t:val 4294967296 rs=x / d:=by
    rw[<-B,Nat.mul_comm,Nat.mul_add_div g,Nat.div_eq_of_lt K,Nat.add_zero]
   have P:x % d=r:=by
    rw[<-B,Nat.mul_comm,Nat.mul_add_mod,Nat.mod_eq_of_lt K]
   have V:O (x % d=r):=P;clear n hB B P;have W:O (val 4294967296 rs=x / d):=t;clear t;go_wp2_with fail;refine(Qn5 w.heap.size l.length l.length (x / d) rs _ N.o p.o A.o lZ (by omega) W.o).mono ?_;rintro e w1 ⟨⟨r,rfl,X⟩,rfl⟩;go_wp2;go_ret2;exact⟨⟨_,r,by rw[V.o];rfl,X⟩,E⟩
  .
   obtain⟨j,rfl⟩:∃j,k=j+1:=⟨k - 1,by omega⟩;obtain⟨b,Y,rfl,F,u⟩:=h.row.cell j (by omega);obtain⟨e,C⟩:=nm (l.getD j 0);have G:e<4294967296:=by rw[<-C];exact h.num.small.getD (by omega) j
   rw[C] at u;have Q:=ce E F u;have Z:O (l.getD j 0=e):=C;obtain⟨z,R⟩:=nm (rs.getD j 0);have g1:=hB.free j;have g2:=hB.cell j (by omega);rw[R] at g2;clear C u R hB n;have S:((j+1:Nat):Int) - 1=(j:Int):=by omega
   rw[S];clear S;have aa:((d:Int) == 0)=false:=by rw[beq_eq_false_iff_ne];omega
   obtain⟨s,T⟩:=nm (4294967296*r+e);have ab:bits .or .u64 ((r:Int)*4294967296) (e:Int)=(s:Int):=by
    rw[or64 ((r:Int)*4294967296) (e:Int) r e 32 (by omega) rfl G (by omega)];omega
   obtain⟨q,t⟩:=nm (s / d);obtain⟨f,m⟩:∃f,s % d=f:=⟨_,rfl⟩;have H:q<4294967296:=by
    rw[<-t,Nat.div_lt_iff_lt_mul g];have:=Nat.mul_le_mul_left 4294967296 (show r+1<=d by omega);omega
   have I:f<d:=by rw[<-m];exact Nat.mod_lt _ g
   have v:=Qhw 4294967296 j d e r rs l (by have:=p.o;omega) (by omega) Z.o M.o;rw[T,t,m] at v;have t1:(s:Int) / (d:Int)=(q:Int):=by rw[<-t];simp
   have t2:(s:Int) % (d:Int)=(f:Int):=by rw[<-m];simp
   have ad:s<18446744073709551616:=by omega
   have J:O (val 4294967296 ((rs.set j q).drop j)*d+f=val 4294967296 (l.drop j)):=v;clear t m v T;go_wp2;go_roundw
   case rel=>exact⟨j,f,rs.set j q,by omega,I,by rw[t2],rfl,N.o.set j q,by rw[List.length_set];exact p.o,A.o.set j H,J.o,E.setCell lZ _⟩
   case measure=>simp[intOf]
theorem Row.grown{k:IntKind}{w w':Vz}{a:Vx}{d:Nat}{l:Vy}{row:Option Nat}(h:Row k w a d l)(f:w.grownBy w' row)(g:∀b c,a=some ⟨b,c,none⟩->some b≠row):Row k w' a d l:=by
 refine⟨h.fit,?_,fun i m=>?_⟩
 .
  rcases h.shape with e|⟨b,c,rfl,j⟩
  . exact .inl e
  . exact .inr ⟨b,c,rfl,by have:=f.size;omega⟩
 . obtain⟨b,c,e,j,n⟩:=h.cell i m
   exact⟨b,c,e,by have:=f.size;omega,(World.cell?_of_block (w:=w) (a:=⟨b,c+i,none⟩) (f.block b j (g b c e))).trans n⟩
theorem U32.grown{w w':Vz}{a:Vx}{c:Nat}{l:Vy}{n:Nat}{row:Option Nat}(h:U32 w a c l n)(f:w.grownBy w' row)(d:∀b e,a=some ⟨b,e,none⟩->some b≠row):U32 w' a c l n:=⟨h.row.grown f d,h.num,h.short⟩
theorem Qbn{w w':Vz}{a:Nat}{e:Vr}{b:Nat}{v:Value}{n:Nat}{xs:Vv}(h:w.ownsRow a e b v n xs)(k:Bl w w'):w'.ownsRow a e b v n xs:=by
 refine⟨h.1,?_⟩;rcases h.2 with c|⟨g,d,f,c,l,i,m⟩
 . exact .inl c
 .
  refine .inr ⟨g,d,f,c,l,?_,m⟩;have j:g<w.heap.size:=by
   apply bC;intro o;rw[Array.getElem?_eq_none (by omega)] at i;cases i
  rw[k.block g j];exact i
def byteV(d:Nat):Value:=.int .u8 (48+(d:Int))
def sliceLen:Value->Nat
 | .slice _ n _=>n
 |_=>0
theorem Qf8{w:Vz}{a:Nat}{e:Vr}{b:Nat}{v:Value}{n:Nat}{xs:Vv}(h:w.ownsRow a e b v n xs):sliceLen v=n:=by
 rcases h.2 with ⟨rfl,rfl⟩|⟨g,c,d,rfl,_⟩<;>rfl
theorem Tryz.info8:(prog.info? 5).map (fun i=>(i.zero,i.size,i.bytes))=some (some (.int .u8 0),1,1):=by kernel_rfl
theorem Qrp{x k d:Nat}{a:Vy}(hk:a.length=k)(c:x / 10 ^ k % 10=d)(e:val 10 a+10 ^ k*(x / 10 ^ k)=x):val 10 (a++ [d])+10 ^ (k+1)*(x / 10 ^ (k+1))=x:=by
 rw[Qcy,hk,Qbh,Qcx,Nat.mul_zero,Nat.add_zero,Nat.pow_succ,<-Nat.div_div_eq_div_mul];have b:=Nat.div_add_mod (x / 10 ^ k) 10;rw[c] at b;have f:10 ^ k*10*(x / 10 ^ k / 10)+10 ^ k*d=10 ^ k*(x / 10 ^ k):=by
  conv=>rhs;rw[<-b]
  rw[Nat.mul_add,Nat.mul_assoc]
 omega
theorem Qrq{x k:Nat}(h:x / 10 ^ k≠0):10 ^ k<=x:=by
 apply bC;intro a;exact h (Nat.div_eq_of_lt (by omega))
theorem Qrr(k:Nat):k<10 ^ k:=Nat.lt_pow_self (by decide)
theorem Qjr{k K x:Nat}(h:10 ^ k<=x)(a:x<2 ^ K):k<K:=by
 have b:2 ^ k<=10 ^ k:=Nat.pow_le_pow_left (by decide) k;exact(Nat.pow_lt_pow_iff_right (by decide:1<2)).1 (Nat.lt_of_le_of_lt (Nat.le_trans b h) a)
def revAt(bs:Vy)(n m p:Nat):Nat:=if p<m∨n<=p+m then bs.getD (n - 1 - p) 0 else bs.getD p 0
theorem Qjs{w:Vz}{c:Nat}{e:Vr}{v:Value}{n:Nat}{f:Vy}(h:w.ownsRow c e 1 v n (f.map fun b:Nat=>Value.int .u8 (b:Int)))(r:0<n):
 ∃g a C,v=.slice (some ⟨g,0,none⟩) n a/\c<=g/\n<=a/\f.length=n/\SB w g e C/\∀p,p<n->C[p]?=some (.int .u8 ((f.getD p 0:Nat):Int)):=by
 obtain⟨hl,i⟩:=h;rw[List.length_map,Nat.mul_one] at hl;rcases i with ⟨_,i⟩|⟨g,a,d,i,j,k,l,s,t,m⟩
 . omega
 .
  refine⟨g,a,d,i,j,l,hl,k,fun p x=>?_⟩;have o:(d.toList.take (n*1))[p]?=d[p]?:=by
   rw[List.getElem?_take_of_lt (by omega)];simp
  rw[<-o,m,List.getElem?_map,List.getD_eq_getElem?_getD];obtain⟨u,q⟩:∃u,f[p]?=some u:=⟨f[p],by rw[gE]⟩;rw[q];rfl
theorem Qjt(a:Vy)(n p:Nat)(b:p<n):revAt a n 0 p=a.getD p 0:=by unfold revAt;rw[if_neg (by omega)]
theorem Qju(a:Vy)(n m j:Nat)(h:m+j=n - 1)(b:m<j):revAt a n m m=a.getD m 0:=by unfold revAt;rw[if_neg (by omega)]
theorem Qjv(a:Vy)(n m j:Nat)(h:m+j=n - 1)(b:m<j):revAt a n m j=a.getD j 0:=by unfold revAt;rw[if_neg (by omega)]
theorem Qjw{C:Vw}(b:Vy)(n m j:Nat)(h:m+j=n - 1)(k:m<j)(hC:∀p,p<n->C[p]?=some (.int .u8 ((revAt b n m p:Nat):Int))):
 ∀p,p<n->((C.setIfInBounds m (.int .u8 ((b.getD j 0:Nat):Int))).setIfInBounds j (.int .u8 ((b.getD m 0:Nat):Int)))[p]?=some (.int .u8 ((revAt b n (m+1) p:Nat):Int)):=by
 intro p c;have a:∀p,p<n->p<C.size:=fun p c=>by
  have:=hC p c;apply bC;intro l;rw[Array.getElem?_eq_none (by omega)] at this;cases this
 have g:=a m (by omega);have i:=a j (by omega);rw[Array.getElem?_setIfInBounds];by_cases d:j=p
 .
  subst d;rw[if_pos rfl,if_pos (by simpa using i)];unfold revAt;rw[if_pos (by omega),show n - 1 - j=m by omega]
 .
  rw[if_neg d,Array.getElem?_setIfInBounds];by_cases e:m=p
  .
   subst e;rw[if_pos rfl,if_pos g];unfold revAt;rw[if_pos (by omega),show n - 1 - m=j by omega]
  .
   rw[if_neg e,hC p c];unfold revAt;by_cases f:p<m∨n<=p+m
   . rw[if_pos f,if_pos (by omega)]
   . rw[if_neg f,if_neg (by omega)]
theorem Qrs(a:Vy)(n m j p:Nat)(h:m+j=n - 1)(g:¬m<j)(d:a.length=n)(i:p<n):((revAt a n m p:Nat):Int)=(a.reverse.map (fun b:Nat=>(b:Int))).getD p 0:=by
 have e:revAt a n m p=a.getD (n - 1 - p) 0:=by
  unfold revAt;by_cases c:p<m∨n<=p+m
  . rw[if_pos c]
  . rw[if_neg c,show n - 1 - p=p by omega]
 rw[e,List.getD_eq_getElem?_getD,List.getD_eq_getElem?_getD,List.getElem?_map,List.getElem?_reverse (by omega),d];obtain⟨u,f⟩:∃u,a[n - 1 - p]?=some u:=⟨a[n - 1 - p]'(by omega),by rw[gE]⟩;rw[f];rfl
theorem Qrt(a:Vy):a.map byteV=(a.map (48+ ·)).map (fun b:Nat=>Value.int .u8 (b:Int)):=by
 rw[List.map_map];apply List.map_congr_left;intro d _
 show Value.int .u8 (48+(d:Int))=Value.int .u8 ((48+d:Nat):Int)
 rw[Int.natCast_add];rfl
theorem Qjx(a:Vy):(strOfNums ((a.map (48+ ·)).reverse.map (fun b:Nat=>(b:Int)))).data.toList=a.reverse.map (fun d=>UInt8.ofNat (48+d)):=by
 rw[strOfNums_data,<-List.map_reverse,List.map_map,List.map_map];apply List.map_congr_left;intro d _
 show UInt8.ofNat ((48+d:Nat):Int).toNat=_
 rw[Int.toNat_natCast]
theorem Qru(a:Vy):(strOfNums ((a.map (48+ ·)++ [45]).reverse.map (fun b:Nat=>(b:Int)))).data.toList=45 :: a.reverse.map (fun d=>UInt8.ofNat (48+d)):=by
 rw[<-Qjx,strOfNums_data,strOfNums_data,List.reverse_append];rfl
theorem Qjy(wr:Vz)(g n a m i:Nat)(d:Vy)(C:Vw)(e:SB wr g 5 C)(hC:∀p,p<n->C[p]?=some (.int .u8 ((revAt d n m p:Nat):Int)))(f:m+i=n - 1)(h:¬m<i)(c:d.length=n):
 (convert 226 9 (.slice (some ⟨g,0,none⟩) n a)).run prog wr=.ok (.string (strOfNums (d.reverse.map (fun b:Nat=>(b:Int))))) wr:=by
 refine run_convert_bytes_arg (P:=prog) wr 226 5 underlying226 underlying5 g 0 n a _ ?_ ?_ 9 underlying9
 . rw[List.length_map,List.length_reverse];exact c
 . intro p j
   rw[Nat.zero_add,e.cell,hC p j,Qrs _ _ _ _ _ f h c j]
theorem Qrv(b o K:Nat)(X:Int)(a:Vx)(E:Nat)(l:Vy)(w:Vz)(hx:IntAt w b o X a E l)(hX:X≠0)(hK:X.natAbs<2 ^ K)(be:K<=1099511627776):
 Calls prog 132 #[.pointer (some ⟨b,o,none⟩),.int .i64 10] w fun e w'=>(∃s,e=.returned (.string s)/\IntText s.data.toList X)/\Below w.heap.size w w':=by
 obtain⟨i0,hi,aj,ak,hz2⟩:=info_parts Tryz.info8;have k0:=hx.neg;have k1:=hx.abs;have r:=hx.lt;have q1:((l.length:Int) == 0)=false:=by
  rw[beq_eq_false_iff_ne];have:=(hx.num.num.len_zero (by decide)).2;omega
 have HX:=Hi hx.num;obtain⟨x,ab⟩:=nm X.natAbs;rw[ab] at HX hK;have bf:x≠0:=by omega
 have al:=Hi hK;clear hx hK;go_enter func132,ntmps132;go_wp2_with fail;refine(Qdt a E l x _ HX.o).mono ?_;rintro e w1 ⟨⟨a1,am,rfl,an⟩,ad⟩;have c0:=ce ad r k0;obtain⟨ax,ay⟩:=Ia an ad;clear an ad;go_wp2_with fail;go_loopw [5,6] (fun bv av wr=>∃(k:Nat) (y:Vy) (a:Vx) (E:Nat) (l:Vy),y.length=k/\av=.slice a l.length E/\U32 wr a E l (x / 10 ^ k)/\wr.ownsRow w.heap.size 5 1 bv k (y.map byteV)/\Small 10 y/\val 10 y+10 ^ k*(x / 10 ^ k)=x/\(k=0∨10 ^ (k - 1)<=x)/\Below w.heap.size w wr) (fun bv _ _=>x+1 - sliceLen bv)
 case atStart=>exact⟨0,[],a1,am,l,rfl,rfl,by rw[Nat.pow_zero,Nat.div_one];exact ax.o,World.ownsRow_nil _ _ _ _,Small.nil _,by simp[val],.inl rfl,ay.o⟩
 case round=>
  obtain⟨k,y,a,E,l,hk,rfl,hu,M,ao,hv,Z,N⟩:=hrel;have az:=Qf8 M;obtain⟨HU,HB,HO,HV,ap,HP⟩:=Ie hu N M hv ao Z;have bg:=N.size;clear hu N M hv ao Z;by_cases hz:l.length=0
  .
   have H:=(HU.o.num.len_zero (by decide)).2 hz;have a0:0<k:=by
    rcases Nat.eq_zero_or_pos k with h0|h0
    .
     subst h0;rw[Nat.pow_zero,Nat.div_one] at H;omega
    . exact h0
   have HN:O (Num 10 y x):=Hi (Qom ap.o hk (by have:=HV.o;rw[H,Nat.mul_zero,Nat.add_zero] at this;exact this) (by rcases HP.o with h|h;omega;exact h) a0);have a2:k - 1<K:=by
    rcases HP.o with h|h
    . omega
    . exact Qjr h al.o
   have d0:=ce HB.o r k0;have aq:=Hi (Qrt y);by_cases I:X<0
   .
    rw[show decide (X<0)=true by simpa using I] at d0;go_wp2_with (at_builtin;refine wpList_append_lies _ rfl _ _ 226 rfl w.heap.size 5 i0 (.int .u8 0) 1 1 underlying226 hi aj ak hz2 rfl (by decide) _ k (y.map byteV) rfl (Qbn HO.o (bR.alloc lZ _)) ⟨wr.heap.size,0,none⟩ 1 1 [Value.int .u8 45] rfl rfl ?c1 ?c2 (by decide) ?c3 ?c4 ?c5 _ rfl ?_)
    case c1=>exact World.news_of_block (heap_alloc_new wr _)
    case c2=>intro u hu;rw[List.mem_singleton.1 hu];rfl
    case c3=>unfold maxLen;omega
    case c4=>omega
    case c5=>rw[World.size_alloc];omega
    intro g J w3 c t ar aa;rw[aq.o,show [Value.int .u8 45]= [45].map (fun b:Nat=>Value.int .u8 (b:Int)) from rfl,<-List.map_append] at c;obtain⟨F,ae⟩:=Ia (Qjs c (by omega)) (Below.grown (HB.o.alloc (by omega) (Obj.cells #[Value.int IntKind.u8 45] 5)) t (by rw[World.size_alloc];omega) (fun q hq=>(HO.o.lt q hq).1));have v:O (IntText (strOfNums ((y.map (48+ ·)++ [45]).reverse.map (fun b:Nat=>(b:Int)))).data.toList X):=Hi ⟨y.reverse.map (fun d=>UInt8.ofNat (48+d)),.inr ⟨by omega,y,by rw[ab];exact HN.o,rfl⟩,by rw[if_pos I];exact Qru y⟩;clear c t ar aa H c0 k0 k1;obtain⟨L,P⟩:=nm ((y.map (48+ ·)++ [45]));rw[P] at F v;clear P;obtain⟨g,J,C,hv,Q,a3,R,f,hC⟩:=F.o;cases hv;obtain⟨af,ag,HC⟩:=Ib R f hC;clear f hC R F;go_wp2_with fail
    go_loopw [8,9] (fun i j wr=>∃(m n:Nat) (C:Vw),i=.int .i64 m/\j=.int .i64 n/\m+n=(k+1) - 1/\SB wr g 5 C/\(∀p,p<(k+1)->C[p]?=some (.int .u8 ((revAt L (k+1) m p:Nat):Int)))/\Below w.heap.size w wr) (fun i _ _=>(k+1) - (intOf i).toNat)
    case atStart=>exact⟨0,(k+1) - 1,C,rfl,by go_num,by omega,ag.o,fun p Z=>by rw[Qjt _ _ _ Z];exact HC.o p Z,ae.o⟩
    case round=>
     obtain⟨m,n,C',rfl,rfl,z,f,hC,N⟩:=hrel;have D:=Hi f;have S:=Hi hC;have T:=Hi N;by_cases r:m<n
     .
      have A:=hC m (by omega);have B:=hC n (by omega);rw[Qju _ _ _ _ z r] at A;rw[Qjv _ _ _ _ z r] at B;have G:=Hi (Qjw L (k+1) m n z r S.o);obtain⟨y1,U⟩:=nm (L.getD m 0);obtain⟨y2,V⟩:=nm (L.getD n 0);rw[U] at A G;rw[V] at B G;have d1:=(f.cell m).trans A;have d2:=(f.cell n).trans B;have f1:=f.free m;have f2:=f.free n;have a4:m≠n:=by omega
      clear f hC N A B U V;go_wp2;go_roundw
      case rel=>exact⟨m+1,n - 1,_,by go_num,by go_num,by omega,(D.o.set m _).set n _,G.o,(T.o.setCell Q _).setCell Q _⟩
      case measure=>simp[intOf];omega
     .
      have ah:=Qjy wr g (k+1) J m n L C' D.o S.o z r af.o;obtain⟨st,W⟩:=nm (strOfNums (L.reverse.map (fun b:Nat=>(b:Int))));rw[W] at ah v;clear f hC N W;go_wp2;go_ret;exact⟨⟨_,rfl,v.o⟩,T.o⟩
   .
    rw[show decide (X<0)=false by simpa using I] at d0;have c:=HO.o;rw[aq.o] at c;obtain⟨F,ae⟩:=Ia (Qjs c (by omega)) HB.o;have v:O (IntText (strOfNums ((y.map (48+ ·)).reverse.map (fun b:Nat=>(b:Int)))).data.toList X):=Hi ⟨y.reverse.map (fun d=>UInt8.ofNat (48+d)),.inr ⟨by omega,y,by rw[ab];exact HN.o,rfl⟩,by rw[if_neg I];exact Qjx y⟩;clear c H c0 k0 k1;obtain⟨L,P⟩:=nm ((y.map (48+ ·)));rw[P] at F v;clear P;obtain⟨g,J,C,hv,Q,a3,R,f,hC⟩:=F.o;cases hv;obtain⟨af,ag,HC⟩:=Ib R f hC;clear f hC R F;go_wp2_with fail;go_loopw [8,9] (fun i j wr=>∃(m n:Nat) (C:Vw),i=.int .i64 m/\j=.int .i64 n/\m+n=k - 1/\SB wr g 5 C/\(∀p,p<k->C[p]?=some (.int .u8 ((revAt L k m p:Nat):Int)))/\Below w.heap.size w wr) (fun i _ _=>k - (intOf i).toNat)
    case atStart=>exact⟨0,k - 1,C,rfl,by go_num,by omega,ag.o,fun p Z=>by rw[Qjt _ _ _ Z];exact HC.o p Z,ae.o⟩
    case round=>
     obtain⟨m,n,C',rfl,rfl,z,f,hC,N⟩:=hrel;have D:=Hi f;have S:=Hi hC;have T:=Hi N;by_cases r:m<n
     .
      have A:=hC m (by omega);have B:=hC n (by omega);rw[Qju _ _ _ _ z r] at A;rw[Qjv _ _ _ _ z r] at B;have G:=Hi (Qjw L k m n z r S.o);obtain⟨y1,U⟩:=nm (L.getD m 0);obtain⟨y2,V⟩:=nm (L.getD n 0);rw[U] at A G;rw[V] at B G;have d1:=(f.cell m).trans A;have d2:=(f.cell n).trans B;have f1:=f.free m;have f2:=f.free n;have a4:m≠n:=by omega
      clear f hC N A B U V;go_wp2;go_roundw
      case rel=>exact⟨m+1,n - 1,_,by go_num,by go_num,by omega,(D.o.set m _).set n _,G.o,(T.o.setCell Q _).setCell Q _⟩
      case measure=>simp[intOf];omega
     .
      have ah:=Qjy wr g k J m n L C' D.o S.o z r af.o;obtain⟨st,W⟩:=nm (strOfNums (L.reverse.map (fun b:Nat=>(b:Int))));rw[W] at ah v;clear f hC N W;go_wp2;go_ret;exact⟨⟨_,rfl,v.o⟩,T.o⟩
  .
   have ai:=Hi (Qrq (fun h0=>hz ((HU.o.num.len_zero (by decide)).1 h0)));have a2:=Qjr ai.o al.o;have bh:=Nat.lt_of_lt_of_le (Qrr k) ai.o;go_wp2_with fail;refine(Qn6 a E 10 l (x / 10 ^ k) _ HU.o (by decide) (by decide)).mono ?_;rintro e w2 ⟨⟨bc,r2,rfl,au⟩,Y⟩;have a5:=Hi (Qbn HO.o Y);have a6:=fun q hq=>(HO.o.lt q hq).2
   obtain⟨a7,a8⟩:=Ia au Y;have bd:=Y.size;clear au Y;obtain⟨d,hd⟩:=nm (x / 10 ^ k % 10);have a9:d<10:=by omega
   rw[hd];have HD:=Hi hd;clear hd;go_wp2_with (at_builtin;refine wpList_append_lies _ rfl _ _ 226 rfl w.heap.size 5 i0 (.int .u8 0) 1 1 underlying226 hi aj ak hz2 rfl (by decide) _ k (y.map byteV) rfl (Qbn a5.o (bR.alloc lZ _)) ⟨w2.heap.size,0,none⟩ 1 1 [byteV d] rfl rfl ?c1 ?c2 (by decide) ?c3 ?c4 ?c5 _ rfl ?_)
   case c1=>exact World.news_of_block (heap_alloc_new w2 _)
   case c2=>intro u hu;rw[List.mem_singleton.1 hu];rfl
   case c3=>unfold maxLen;omega
   case c4=>omega
   case c5=>rw[World.size_alloc];omega
   intro g cap' w3 c t ar aa;obtain⟨ba,HG⟩:=Ia c t;clear c t;go_wp2;go_roundw
   case rel=>
    refine⟨k+1,y++ [d],_,_,r2,by simp[hk],rfl,?_,?_,ap.o.append (fun e he=>by rw[List.mem_singleton.1 he];exact a9),Qrp hk HD.o HV.o,.inr (by rw[Nat.add_sub_cancel];exact ai.o),?_⟩
    .
     have bb:=a7.o.below ((Below.refl _ w2).alloc lZ (Obj.cells #[Value.int IntKind.u8 (48+(d:Int))] 5));rw[Nat.pow_succ,<-Nat.div_div_eq_div_mul];refine bb.grown HG.o ?_;intro b' aw he hc;obtain⟨rfl,rfl⟩:wr.heap.size=b'/\0=aw:=by simpa using he
     have:=a6 _ hc.symm;omega
    . rw[List.map_append]
      exact ba.o
    .
     refine Below.grown ((HB.o.trans (a8.o.mono (by omega))).alloc (by omega) _) HG.o (by rw[World.size_alloc];omega) ?_;intro q hq;exact(HO.o.lt q hq).1
   case measure=>rw[az];simp[sliceLen];omega
end Go.Proofs.YtkkadnoecklepaaGreatDoor
