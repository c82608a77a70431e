import Derived.Test.YtppkmifkpjkgpaaGreatDoorC03BigDivL1
import Derived.Deep.RegionHeld3
namespace Go.Proofs.YtppkmifkpjkgpaaGreatDoor
open Go.RowKit
open Go.Proofs.Tryz
set_option linter.unusedSimpArgs false
set_option linter.unusedVariables false
set_option maxHeartbeats 8000000
set_option maxRecDepth 1000000
theorem Blk.setRow{k:IntKind}{t:Vr}{w:Vz}{g:Nat}{l:Vy}(h:Blk k t w g l)(m:Vy):Blk k t (w.setRow g (wordCells k m)) g m:=setRow_heap w g _ _ t _ h
theorem Qmv(X V n M k:Nat)(b v:Vy)(c:Num 4294967296 b X)(d:X<4294967296 ^ (M+n+2))(e:Num 4294967296 v V)(a:v.length=n+2)(hk:b.length+k=M+n+3):
 DivInv X V n M (M+1) (b++zeros k) (zeros (M+1)):=by
 refine⟨by rw[List.length_append,Qaf];exact hk,Qaf _,c.small.append (Qak _ _ (by decide)),Qak _ _ (by decide),?_,?_⟩
 . rw[Qcu,Qd5,c.eq,List.drop_of_length_le (by rw[Qaf];exact Nat.le_refl _),Qct,Nat.mul_zero,Nat.mul_zero]
   rfl
 .
  rw[Qcu,Qd5,c.eq,Nat.mul_zero,Nat.add_zero];have f:=e.trim.pow_le (B:=4294967296) (by rw[a];exact Nat.succ_pos _);rw[e.eq,a] at f;have g:=Nat.mul_le_mul_left (4294967296 ^ (M+1)) f;rw[<-Nat.pow_add,show M+1+(n+2 - 1)=M+n+2 from by omega] at g;exact Nat.lt_of_lt_of_le d g
theorem Qmw(w:Vz)(g n f bx d:Nat)(a:Vy)(hB:Blk .u32 201 w g (zeros n))(l:Row .u32 w (some ⟨bx,d,none⟩) f a)(m:a.length<=n):
 Sem.run prog (Builtin.copy_ #[120,120] 3 #[.slice (some ⟨g,0,none⟩) n n,.slice (some ⟨bx,d,none⟩) a.length f]) w=.ok (.int .i64 a.length) (w.setRow g (wordCells .u32 (a++zeros (n - a.length)))):=by
 have h:=run_copy_row (P:=prog) w 120 120 3 201 g 0 n n ⟨bx,d,none⟩ a.length f (wordCells .u32 (zeros n)) 201 (a.map (fun n:Nat=>Value.int .u32 n)) underlying120 (by kernel_rfl) hB
  (by rw[List.length_map];exact(Nat.min_eq_left m).symm) ?_ (by simp[wordCells,Qaf];omega) ?_
 .
  have e:(List.take 0 (wordCells .u32 (zeros n)).toList++a.map (fun n:Nat=>Value.int .u32 n)++List.drop (0+(a.map (fun n:Nat=>Value.int .u32 n)).length) (wordCells .u32 (zeros n)).toList).toArray=wordCells .u32 (a++zeros (n - a.length)):=by
   unfold wordCells zeros;simp
  rw[e] at h;rw[List.length_map] at h;exact h
 .
  intro j u o;obtain⟨i,k⟩:=gZ o;have b:j<a.length:=by simpa using i
  obtain⟨p,c,q,_,r⟩:=l.cell j b;obtain⟨rfl,rfl⟩:bx=p/\d=c:=by simpa using q
  rw[Qaq,r,<-k];simp[b]
 . intro u k;obtain⟨n,_,rfl⟩:=List.mem_map.1 k;rfl
theorem Qmx(a1 Y:Vx)(c1 c2:Nat)(l m:Vy)(x y:Nat)(w:Vz)(k:U32 w a1 c1 l x)(g:U32 w Y c2 m y)(hy:0<y)(ay:y<=x)(hl:2<l.length)(hm:1<m.length)(bk:l.length<1099511627770):
 Calls prog 157 #[.slice a1 l.length c1,.slice Y m.length c2] w (DivOk w x y):=by
 have s2:=g.short;have bl:m.length<=l.length:=by
  apply bC;intro hc;have:=Qax (B:=4294967296) (by omega) k.num.small g.num.trim (by omega);rw[k.num.eq,g.num.eq] at this;omega
 have q1:((m.length:Int) == 0)=false:=by rw[beq_eq_false_iff_ne];omega
 have q2:((m.length:Int) == 1)=false:=by rw[beq_eq_false_iff_ne];omega
 have hc:¬cmp3 x y<0:=by rw[Qay];omega
 have az:nb y<=32*m.length:=Num.nb_le (q:=32) g.num;obtain⟨z,hz⟩:=nm (nb y);have bm:1<=z:=by rw[<-hz];exact Qdo hy
 obtain⟨s,hs⟩:=nm (31 - (z - 1) % 32);have c:s<32:=by omega
 have a0:32 - ((z:Int) - 1) % 32 - 1=(s:Int):=by omega
 rw[hz] at az;have HZ:O (nb y=z):=hz;clear hz hs;go_enter func157,ntmps157;go_wp2_with fail;refine(Qbg a1 Y c1 c2 l m x y w k g).mono ?_;rintro e w1 ⟨rfl,U⟩;replace k:=k.below U;replace g:=g.below U;go_wp2_with fail;refine(Qm1 Y c2 m y w1 g).mono ?_;rintro e w2 ⟨rfl,rfl⟩;rw[HZ.o];clear hc;go_wp2_with fail;refine(Qhk Y c2 s m y w2 g c (by omega) (by omega)).mono ?_;rintro e a ⟨⟨av,cv,v,rfl,d⟩,t⟩;replace k:=k.below t;have Z:=Qe5 c;have F:0<2 ^ s:=Nat.pow_pos (by omega);obtain⟨V,hV⟩:=nm (y*2 ^ s);obtain⟨X,hX⟩:=nm (x*2 ^ s);rw[hV] at d;have a3:y<=V:=by rw[<-hV];exact Nat.le_mul_of_pos_right _ F
 have bn:V<=X:=by rw[<-hV,<-hX];exact Nat.mul_le_mul_right _ ay
 have aa:X<4294967296 ^ (l.length+1):=by
  have b:=Qaa (B:=4294967296) (by omega) k.num.small;rw[k.num.eq] at b;rw[<-hX,Nat.pow_succ];exact Nat.mul_lt_mul'' b (by omega)
 have ab:2<=v.length:=by
  apply bC;intro hn;have b:=Qaa (B:=4294967296) (by omega) d.num.small;have u:=Qcd (B:=4294967296) (by omega) (show v.length<=1 by omega);have e3:=g.num.trim.pow_le (B:=4294967296) (by omega);have e4:=Qcd (B:=4294967296) (by omega) (show 1<=m.length - 1 by omega);rw[d.num.eq] at b;rw[g.num.eq] at e3;omega
 have ad:v.length<=l.length+1:=d.num.length_le_of_lt (by omega) (by omega);have HV:O (y*2 ^ s=V):=hV;have HX:O (x*2 ^ s=X):=hX;have ae:O (X<4294967296 ^ (l.length+1)):=aa;clear hV hX aa Z F a3;have a4:∀w,(Instr.makeSlice 120 (.int .i64 ((l.length:Int)+2)) (.int .i64 ((l.length:Int)+2))).run prog w=.ok (.slice (some ⟨w.heap.size,0,none⟩) (l.length+2) (l.length+2)) (w.alloc (.cells (wordCells .u32 (zeros (l.length+2))) 201)):=
  fun w=>Qa7 _ (l.length+2) (by omega) (by omega) w
 go_wp2_with fail;have K:Below a.heap.size a (a.alloc (.cells (wordCells .u32 (zeros (l.length+2))) 201)):=bR.alloc lZ _;refine(Qhk a1 c1 s l x _ (k.below K) c (by omega) (by omega)).mono ?_;rintro e r ⟨⟨ax,cx,f,rfl,L⟩,N⟩;clear a4;rw[HX.o] at L;have bh:f.length<=l.length+1:=L.num.length_le_of_lt (by omega) ae.o;have af:0<f.length:=by
  have:=(L.num.len_zero (by omega)).2;have:=HV.o;have:0<y*2 ^ s:=Nat.mul_pos hy (Nat.pow_pos (by omega));omega
 have A:Blk .u32 201 r a.heap.size (zeros (l.length+2)):=(Blk.new .u32 201 a _).below N (by simp);have G:Below a.heap.size a r:=K.trans (N.mono (by simp));have bo:=G.size;have ag:=A.lt;clear K N;obtain⟨bx,ox,a5,bp,a6⟩:=L.row.cell 0 af;subst a5;have a7:=Qmw r a.heap.size (l.length+2) cx bx ox f A L.row (by omega);clear a6;obtain⟨n,hn⟩:∃n,v.length=n+2:=⟨v.length - 2,by omega⟩;have W:O (v.length=n+2):=hn;rw[hn];rw[hn] at ab ad;clear hn;obtain⟨M,hM⟩:∃M,l.length=M+n+1:=⟨l.length - 1 - n,by omega⟩;have HM:O (l.length=M+n+1):=hM;have ah:∀w,(Instr.makeSlice 120 (.int .i64 ((l.length:Int)+2 - ((n:Int)+2))) (.int .i64 ((l.length:Int)+2 - ((n:Int)+2)))).run prog w=.ok (.slice (some ⟨w.heap.size,0,none⟩) (M+1) (M+1)) (w.alloc (.cells (wordCells .u32 (zeros (M+1))) 201)):=
  fun w=>Qa7 _ (M+1) (by omega) (by omega) w
 clear hM;go_wp2_with fail;clear a7 ah;generalize hW0:(r.setRow a.heap.size (wordCells .u32 (f++zeros (l.length+2 - f.length)))).alloc (.cells (wordCells .u32 (zeros (M+1))) 201)=W0 at*;have P:(r.setRow a.heap.size (wordCells .u32 (f++zeros (l.length+2 - f.length)))).heap.size=r.heap.size:=by simp[World.setRow]
 have H:Blk .u32 201 W0 a.heap.size (f++zeros (l.length+2 - f.length)):=by
  rw[<-hW0];exact(A.setRow _).alloc _
 have I:Blk .u32 201 W0 r.heap.size (zeros (M+1)):=by
  rw[<-hW0,<-P];exact Blk.new _ _ _ _
 have C:Below a.heap.size a W0:=by
  rw[<-hW0];exact(below_setRow G lZ _).alloc (by rw[P];omega) _
 clear hW0 P A;obtain⟨Q,R,a8,S,_⟩:=d.row.cell 0 (by have:=W.o;omega);subst a8;have D:∀i,i<n+2->a.cell? ⟨Q,R+i,none⟩=some (.int .u32 ((v.getD i 0:Nat):Int)):=by
  intro i hi;obtain⟨b',o',b,_,u⟩:=d.row.cell i (by have:=W.o;omega);obtain⟨rfl,rfl⟩:Q=b'/\R=o':=by simpa using b
  exact u
 obtain⟨v1,h⟩:=nm (v.getD (n+1) 0);obtain⟨v0,E⟩:=nm (v.getD n 0);have bi:v1<4294967296:=by rw[<-h];exact d.num.small.getD (by omega) _
 have bj:v0<4294967296:=by rw[<-E];exact d.num.small.getD (by omega) _
 have ai:1<=v1:=by
  have b:=d.num.trim;have u:=W.o;rcases b with b|b
  . rw[b] at u;simp at u
  . rw[u] at b;rw[<-h];simp only[Nat.add_one_sub_one] at b;omega
 have g1:=(C.cell (p:=⟨Q,R+(n+1),none⟩) S).trans (D (n+1) (by omega));have g2:=(C.cell (p:=⟨Q,R+n,none⟩) S).trans (D n (by omega));rw[h] at g1;rw[E] at g2;have a9:O (∀i,i<n+2->a.cell? ⟨Q,R+i,none⟩=some (.int .u32 ((v.getD i 0:Nat):Int))):=D;have ba:O (v.getD (n+1) 0=v1):=h;have bb:O (v.getD n 0=v0):=E;clear D h E;go_region
 all_goals
  go_wp2
 clear g1 g2;have bc:V<4294967296 ^ (n+2):=by
  have b:=Qaa (B:=4294967296) (by omega) d.num.small;rw[d.num.eq,W.o] at b;exact b
 have bq:0<V:=by rw[<-HV.o];exact Nat.mul_pos hy (Nat.pow_pos (by omega))
 have aj:DivInv X V n M (M+1) (f++zeros (l.length+2 - f.length)) (zeros (M+1)):=
  Qmv X V n M _ f v L.num (by rw[show M+n+2=l.length+1 from by have:=HM.o;omega];exact ae.o) d.num W.o (by have:=HM.o;omega)
 have ak:DivMem a W0 Q R a.heap.size r.heap.size n (l.length+2) v (f++zeros (l.length+2 - f.length)) (zeros (M+1)):=
  ⟨C,S,a9.o,d.num.small,H,I,ag,by rw[List.length_append,Qaf];omega,L.num.small.append (Qak _ _ (by omega))⟩
 obtain⟨al,am⟩:=Ia ak aj;clear aj bc H I C a0 ak;rw[show (l.length:Int)+2 - ((n:Int)+2) - 1=((M+1:Nat):Int) - 1 from by have:=HM.o;omega];refine wp_loop_rounds (M+1+1) ?_;refine(Qml _ a Q R cv a.heap.size r.heap.size n M (l.length+2) v1 v0 X V v _ (by have:=HM.o;omega) (by omega) d.num W.o ba.o bb.o ai ?hex (M+1)) _ _ _ lZ al.o.drew am.o
 case hex=>
  intro us qs
  iterate 270 intro
  intro wr hm hI;have T:val 4294967296 qs=x / y/\val 4294967296 us / 2 ^ s=x % y:=by
   have b:=hI.eq;have u:=hI.lt;rw[Nat.pow_zero,Nat.one_mul] at b u;rw[List.drop_zero] at b;exact Qfs (Nat.pow_pos (by decide)) HX.o HV.o b u
  obtain⟨bd,an⟩:=T;obtain⟨be,ao,j⟩:=Ib an hI hm;clear an hI hm al am;go_wp2_with fail;refine(Qa4 r.heap.size (M+1) (M+1) (x / y) qs wr j.o.qb ao.o.qlen ao.o.qsmall lZ (by have:=HM.o;omega) bd).mono ?_;rintro e w5 ⟨⟨aq,cq,rq,rfl,bf⟩,rfl⟩;go_wp2_with fail;refine(Qa4 a.heap.size (l.length+2) (l.length+2) _ us w5 j.o.ub j.o.ul j.o.usmall lZ (by omega) rfl).mono ?_;rintro e w6 ⟨⟨au,cu,ru,rfl,bg⟩,rfl⟩;go_wp2_with fail;refine(Qm2 au cu s ru _ w6 bg c).mono ?_;rintro e w7 ⟨⟨ar,cr,rr,rfl,ap⟩,aw⟩;go_wp2;go_ret2;rw[be.o] at ap;refine⟨⟨aq,cq,rq,ar,cr,rr,rfl,bf.below aw,ap⟩,?_⟩;have J:Below a.heap.size a w6:=j.o.below;exact U.trans ((t.mono U.size).trans ((J.mono (Nat.le_trans U.size t.size)).trans (aw.mono (Nat.le_trans U.size (Nat.le_trans t.size J.size)))))
theorem Qap(a b:Vx)(c1 c2:Nat)(l m:Vy)(x y:Nat)(w:Vz)(d:U32 w a c1 l x)(c:U32 w b c2 m y)(e:0<y)(f:l.length<1099511627770):
 Calls prog 157 #[.slice a l.length c1,.slice b m.length c2] w (DivOk w x y):=by
 by_cases g:x<y
 . exact Qmg a b c1 c2 l m x y w d c g
 by_cases hl:l.length<=2
 . exact Qmh a b c1 c2 l m x y w d c e (by omega) hl
 by_cases h:m.length=1
 . exact Qmi a b c1 c2 l m x y w d c e (by omega) (by omega) h
 .
  have i:m.length≠0:=by
   intro j;have:=(c.num.len_zero (by decide)).2 j;omega
  exact Qmx a b c1 c2 l m x y w d c e (by omega) (by omega) (by omega) f
theorem Qb9(p q:Nat):Nat.gcd q (p % q)=Nat.gcd p q:=by
 rw[Nat.gcd_comm q,<-Nat.gcd_rec,Nat.gcd_comm]
theorem U32.len_mono{w w':Vz}{a b:Vx}{c d:Nat}{l m:Vy}{x y:Nat}(h:U32 w a c l x)(k:U32 w' b d m y)(e:x<=y):l.length<=m.length:=
 h.num.length_le_of_lt (by decide) (Nat.lt_of_le_of_lt e (by have:=Qaa (B:=4294967296) (by decide) k.num.small;rw[k.num.eq] at this;exact this))
def ComExit(Qx:Exit->Act->World->Prop)(w0:Vz)(g B:Nat):Prop:=
 ∀(p q:Nat) (a b:Vx) (c d:Nat) (l m:Vy) {s2 s3 s4 s5 s6 s7 s8 s9 s10 s11 s12 s13 s14 s15 s16 s17 s18 s19 s20 s21 s22 s23 s24 s25 s26 s27 s28 s29 s30 s31 s32 s33 s34 s35 s36 s37 s38 s39 s40 s41 s42 s43 s44 s45 s46 s47 s48:Value} (wr:Vz),U32 wr a c l p->U32 wr b d m q->l.length<=B->m.length<=2->Nat.gcd p q=g->Below w0.heap.size w0 wr->
  Qx (.exit 0) ⟨#[.slice a l.length c,.slice b m.length d,s2,s3,s4,s5,s6,s7,s8,s9,s10,s11,s12,s13,s14,s15,s16,s17,s18,s19,s20,s21,s22,s23,s24,s25,s26,s27,s28,s29,s30,s31,s32,s33,s34,s35,s36,s37,s38,s39,s40,s41,s42,s43,s44,s45,s46,s47,s48],[]⟩ wr
def ComAt(Qx:Exit->Act->World->Prop)(w0:Vz)(g B t:Nat):Prop:=
 ∀(p q:Nat) (a b:Vx) (c d:Nat) (l m:Vy) {s2 s3 s4 s5 s6 s7 s8 s9 s10 s11 s12 s13 s14 s15 s16 s17 s18 s19 s20 s21 s22 s23 s24 s25 s26 s27 s28 s29 s30 s31 s32 s33 s34 s35 s36 s37 s38 s39 s40 s41 s42 s43 s44 s45 s46 s47 s48:Value} (wr:Vz),q<=t->U32 wr a c l p->U32 wr b d m q->l.length<=B->m.length<=B->Nat.gcd p q=g->Below w0.heap.size w0 wr->
  Code.rounds prog (((Tryz.f156.body.map loopsIn).getD []).getD 0 .skip) Qx (t+1) ⟨#[.slice a l.length c,.slice b m.length d,s2,s3,s4,s5,s6,s7,s8,s9,s10,s11,s12,s13,s14,s15,s16,s17,s18,s19,s20,s21,s22,s23,s24,s25,s26,s27,s28,s29,s30,s31,s32,s33,s34,s35,s36,s37,s38,s39,s40,s41,s42,s43,s44,s45,s46,s47,s48],[]⟩ wr
theorem Qmf(G:Exit->Act->World->Prop)(w0:Vz)(g B:Nat)(hB:B<1099511627770)(f:ComExit G w0 g B)(t:Nat):ComAt G w0 g B t:=by
 induction t with
 |zero=>
  intro p q a b c d l m
  iterate 47 intro
  intro wr I i h hl y k n;have H:q=0:=by omega
  have z:=(h.num.len_zero (by decide)).1 H;have s:¬(2:Int)<(m.length:Int):=by omega
  obtain⟨A,u,x,J⟩:=Ic i h k (show m.length<=2 by omega);clear i h k z H;rw[rounds_succ]
  conv=>arg 2;whnf
  go_wp2;exact f _ _ _ _ _ _ _ _ _ A.o u.o hl J.o x.o n
 |succ t K=>
  intro p q a b c d l m
  iterate 47 intro
  intro wr I i h hl y k n;obtain⟨A,u,x⟩:=Ib i h k;by_cases C:m.length<=2
  .
   have s:¬(2:Int)<(m.length:Int):=by omega
   clear i h k;rw[rounds_succ]
   conv=>arg 2;whnf
   go_wp2;exact f _ _ _ _ _ _ _ _ _ A.o u.o hl C x.o n
  .
   have s:(2:Int)<(m.length:Int):=by omega
   have j:0<q:=by
    rcases Nat.eq_zero_or_pos q with D|D
    . have:=(h.num.len_zero (by decide)).1 D;omega
    . exact D
   have L:=Hi (Qap a b c d l m p q wr i h j (by omega));clear i h k;rw[rounds_succ]
   conv=>arg 2;whnf
   go_wp2_with fail;refine L.o.mono ?_;rintro e w1 ⟨⟨O,P,r,E,F,M,rfl,N,v⟩,w⟩;go_wp2;exact K q (p % q) b E d F m M _ (by have:=Nat.mod_lt p j;omega) (u.o.below w) v y (Nat.le_trans (v.len_mono u.o (Nat.le_of_lt (Nat.mod_lt _ j))) y) ((Qb9 p q).trans x.o) (n.trans (w.mono n.size))
theorem Qdj{l:Vy}{x:Nat}(h:Num 4294967296 l x)(hl:l.length<=2):x<18446744073709551616:=by
 have a:=Qaa (B:=4294967296) (by decide) h.small;have b:=Qcd (B:=4294967296) (by decide) hl;rw[h.eq] at a;exact Nat.lt_of_lt_of_le a b
theorem Qdk(L M:Vx)(c1 c2:Nat)(l m:Vy)(x y:Nat)(w:Vz)(F:U32 w L c1 l x)(k:U32 w M c2 m y)(hl:l.length<1099511627770)(G:m.length<1099511627770):
 Calls prog 156 #[.slice L l.length c1,.slice M m.length c2] w fun e w'=>(∃a cap r,e=.returned (.slice a r.length cap)/\U32 w' a cap r (Nat.gcd x y))/\Below w.heap.size w w':=by
 obtain⟨g,n⟩:=nm (Nat.gcd x y);rw[n];go_enter func156,ntmps156;go_wp2;refine wp_loop_rounds (y+1) ?_;refine(Qmf _ w g 1099511627769 (by decide) ?hex y) x y L M c1 c2 l m _ lZ F k (by omega) (by omega) n bR
 case hex=>
  intro p q a b c d l m
  iterate 47 intro
  intro wr F k hl G n N;by_cases O:q=0
  .
   have P:((m.length:Int) == 0)=true:=by have:=(k.num.len_zero (by decide)).1 O;simp[this]
   obtain⟨h,HQ⟩:=Ia n O;clear n O;go_wp2;go_ret;have t:=h.o;rw[HQ.o,Nat.gcd_zero_right] at t;exact⟨⟨a,c,l,rfl,by rw[<-t];exact F⟩,N⟩
  .
   have P:((m.length:Int) == 0)=false:=by
    rw[beq_eq_false_iff_ne];have:=(k.num.len_zero (by decide)).2;omega
   by_cases H:l.length<=2
   .
    have Q:¬(2:Int)<(l.length:Int):=by omega
    obtain⟨K,h⟩:=Ia N n;clear n;go_wp2_with fail;refine(Qca a c l p _ F H).mono ?_;rintro e wp ⟨rfl,rfl⟩;go_wp2_with fail;refine(Qca b d m q _ k G).mono ?_;rintro e wq ⟨rfl,rfl⟩;have z:p<18446744073709551616:=Qdj F.num H;have A:q<18446744073709551616:=Qdj k.num G;go_wp2;go_loopw [9,10] (fun X Y R=>∃u v:Nat,X=.int .u64 u/\Y=.int .u64 v/\u<18446744073709551616/\v<18446744073709551616/\Nat.gcd u v=g/\Below w.heap.size w R) (fun _ Y _=>(intOf Y).toNat)
    case atStart=>exact⟨p,q,rfl,rfl,z,A,h.o,K.o⟩
    case round=>
     obtain⟨u,v,rfl,rfl,hu,S,i,f⟩:=hrel;have h:=Hi i;clear i;by_cases B:v=0
     .
      subst B;go_wp2_with fail;refine(Qbx (u:Int) _ (by omega) (by omega)).mono ?_;rintro e w9 ⟨⟨T,U,V,rfl,j,_⟩,C⟩;go_wp2;go_ret;have t:=h.o;rw[Nat.gcd_zero_right] at t;rw[Int.toNat_natCast,t] at j;exact⟨⟨T,U,V,rfl,j⟩,f.trans (C.mono f.size)⟩
     .
      have W:(0:Int)<(v:Int):=by omega
      have qv:((v:Int) == 0)=false:=by rw[beq_eq_false_iff_ne];omega
      obtain⟨r,s⟩:=nm (u % v);have t2:(u:Int) % (v:Int)=(r:Int):=by rw[<-s];simp
      have t3:(u:Int).tmod (v:Int)=(r:Int):=by rw[Int.tmod_eq_emod_of_nonneg (by omega)];exact t2
      have Z:r<v:=by rw[<-s];exact Nat.mod_lt _ (by omega)
      have HR:=Hi s;clear s;go_wp2;go_region
      all_goals
       go_wp2;go_roundw
       case rel=>exact⟨v,r,rfl,rfl,S,by omega,by rw[<-HR.o];exact(Qb9 u v).trans h.o,f.drew⟩
       case measure=>simp[intOf];omega
   .
    have Q:(2:Int)<(l.length:Int):=by omega
    obtain⟨HD,K,h⟩:=Ib (Qap a b c d l m p q wr F k (by omega) (by omega)) N n;clear n;go_wp2_with fail;refine HD.o.mono ?_;rintro e w1 ⟨⟨a',c',r1,aa,ab,r',rfl,ad,D⟩,E⟩;have I:=k.below E;have J:r'.length<=2:=Nat.le_trans (D.len_mono k (Nat.le_of_lt (Nat.mod_lt _ (by omega)))) G;obtain⟨ae,af⟩:=Ia (K.o.trans (E.mono K.o.size)) ((Qb9 p q).trans h.o);clear E ad HD;go_wp2_with fail;refine(Qca b d m q _ I G).mono ?_;rintro e wp ⟨rfl,rfl⟩;go_wp2_with fail;refine(Qca aa ab r' (p % q) _ D J).mono ?_;rintro e wq ⟨rfl,rfl⟩;have z:q<18446744073709551616:=Qdj I.num G;have A:(p % q)<18446744073709551616:=Qdj D.num J;go_wp2;go_loopw [9,10] (fun X Y R=>∃u v:Nat,X=.int .u64 u/\Y=.int .u64 v/\u<18446744073709551616/\v<18446744073709551616/\Nat.gcd u v=g/\Below w.heap.size w R) (fun _ Y _=>(intOf Y).toNat)
    case atStart=>exact⟨q,(p % q),rfl,rfl,z,A,af.o,ae.o⟩
    case round=>
     obtain⟨u,v,rfl,rfl,hu,S,i,f⟩:=hrel;have h:=Hi i;clear i;by_cases B:v=0
     .
      subst B;go_wp2_with fail;refine(Qbx (u:Int) _ (by omega) (by omega)).mono ?_;rintro e w9 ⟨⟨T,U,V,rfl,j,_⟩,C⟩;go_wp2;go_ret;have t:=h.o;rw[Nat.gcd_zero_right] at t;rw[Int.toNat_natCast,t] at j;exact⟨⟨T,U,V,rfl,j⟩,f.trans (C.mono f.size)⟩
     .
      have W:(0:Int)<(v:Int):=by omega
      have qv:((v:Int) == 0)=false:=by rw[beq_eq_false_iff_ne];omega
      obtain⟨r,s⟩:=nm (u % v);have t2:(u:Int) % (v:Int)=(r:Int):=by rw[<-s];simp
      have t3:(u:Int).tmod (v:Int)=(r:Int):=by rw[Int.tmod_eq_emod_of_nonneg (by omega)];exact t2
      have Z:r<v:=by rw[<-s];exact Nat.mod_lt _ (by omega)
      have HR:=Hi s;clear s;go_wp2;go_region
      all_goals
       go_wp2;go_roundw
       case rel=>exact⟨v,r,rfl,rfl,S,by omega,by rw[<-HR.o];exact(Qb9 u v).trans h.o,f.drew⟩
       case measure=>simp[intOf];omega
def SB(w:Vz)(b:Nat)(t:Vr)(C:Vw):Prop:=w.heap[b]?=some (.cells C t (0,0))
def NoInt(C:Vw):Prop:=∀(i:Nat) (k:IntKind) (n:Int),C[i]?≠some (Value.int k n)
theorem SB.lt{w:Vz}{b:Nat}{t:Vr}{C:Vw}(h:SB w b t C):b<w.heap.size:=by
 apply bC;intro a;unfold SB at h;rw[Array.getElem?_eq_none (by omega)] at h;cases h
theorem SB.cell{w:Vz}{b:Nat}{t:Vr}{C:Vw}(h:SB w b t C)(i:Nat):w.cell? ⟨b,i,none⟩=C[i]?:=by
 unfold SB at h;simp[World.cell?,h]
theorem SB.free{w:Vz}{b:Nat}{t:Vr}{C:Vw}(h:SB w b t C)(i:Nat):w.frozen? ⟨b,i,none⟩=false:=by
 unfold SB at h;simp[World.frozen?,h]
theorem SB.set{w:Vz}{b:Nat}{t:Vr}{C:Vw}(h:SB w b t C)(i:Nat)(v:Value):SB (w.setCell ⟨b,i,none⟩ v) b t (C.setIfInBounds i v):=by
 unfold SB at h ⊢;simp[World.setCell,Array.getElem?_modify,h]
theorem SB.alloc{w:Vz}{b:Nat}{t:Vr}{C:Vw}(h:SB w b t C)(o:Obj):SB (w.alloc o) b t C:=by
 have:=h.lt;unfold SB at h ⊢;rw[Below.heap_alloc _ _ _ this];exact h
theorem SB.new(w:Vz)(t:Vr)(C:Vw):SB (w.alloc (.cells C t)) w.heap.size t C:=by
 show (w.heap.push _)[w.heap.size]?=_
 simp
theorem SB.below{w w':Vz}{b B:Nat}{t:Vr}{C:Vw}(h:SB w b t C)(a:Below B w w')(hB:b<B):SB w' b t C:=by
 unfold SB at h ⊢;rw[a.block b hB];exact h
structure Only (b:Nat) (w w':Vz):Prop where
 os:w'.os=w.os
 tape:w'.tape=w.tape
 output:w'.output=w.output
 size:w.heap.size<=w'.heap.size
 block:∀k,k<w.heap.size->k≠b->w'.heap[k]?=w.heap[k]?
theorem Only.refl(b:Nat)(w:Vz):Only b w w:=⟨rfl,rfl,rfl,Nat.le_refl _,fun _ _ _=>rfl⟩
theorem Only.trans{b:Nat}{u v w:Vz}(h:Only b u v)(k:Only b v w):Only b u w:=
 ⟨k.os.trans h.os,k.tape.trans h.tape,k.output.trans h.output,Nat.le_trans h.size k.size,fun i c a=>(k.block i (by have:=h.size;omega) a).trans (h.block i c a)⟩
theorem Only.of_below{b:Nat}{w w':Vz}(h:Below w.heap.size w w'):Only b w w':=⟨h.os,h.tape,h.output,h.size,fun k hk _=>h.block k hk⟩
theorem Only.setCell{b:Nat}{u w:Vz}(h:Only b u w)(i:Nat)(v:Value):Only b u (w.setCell ⟨b,i,none⟩ v):=
 ⟨h.os,h.tape,h.output,by have:=h.size;simpa [World.setCell] using this,fun k hk a=>(Below.heap_setCell _ _ _ _ a).trans (h.block k hk a)⟩
theorem Only.drew{b:Nat}{u w:Vz}(h:Only b u w):Only b u w.drew:=⟨h.os,h.tape,h.output,h.size,h.block⟩
theorem Only.drewN{b:Nat}{u w:Vz}(h:Only b u w)(n:Nat):Only b u (w.drewN n):=⟨h.os,h.tape,h.output,h.size,h.block⟩
theorem Only.below{b B:Nat}{w w':Vz}(h:Only b w w')(hB:B<=b)(a:B<=w.heap.size):Below B w w':=⟨h.os,h.tape,h.output,h.size,fun k hk=>h.block k (by omega) (by omega)⟩
theorem Only.fresh{b:Nat}{u w w':Vz}(h:Below u.heap.size u w)(k:Only b w w')(a:u.heap.size<=b):Below u.heap.size u w':=
 h.trans (k.below a h.size)
theorem SB.only{w w':Vz}{b c:Nat}{t:Vr}{C:Vw}(h:SB w b t C)(k:Only c w w')(a:b≠c):SB w' b t C:=by
 have:=h.lt;unfold SB at h ⊢;rw[k.block b this a];exact h
theorem Row.only{k:IntKind}{w w':Vz}{a:Vx}{cap:Nat}{l:Vy}{b:Nat}{t:Vr}{C:Vw}(h:Row k w a cap l)(e:Only b w w')(n:SB w b t C)(o:NoInt C):Row k w' a cap l:=by
 refine⟨h.fit,?_,fun i p=>?_⟩
 .
  rcases h.shape with f|⟨d,c,rfl,m⟩
  . exact .inl f
  . exact .inr ⟨d,c,rfl,by have:=e.size;omega⟩
 .
  obtain⟨d,c,f,m,g⟩:=h.cell i p;have j:d≠b:=by
   rintro rfl;rw[n.cell] at g;exact o _ _ _ g
  exact⟨d,c,f,by have:=e.size;omega,(World.cell?_of_block (w:=w) (e.block d m j)).trans g⟩
theorem U32.only{w w':Vz}{a:Vx}{cap:Nat}{l:Vy}{n b:Nat}{t:Vr}{C:Vw}(h:U32 w a cap l n)(c:Only b w w')(d:SB w b t C)(e:NoInt C):U32 w' a cap l n:=
 ⟨h.row.only c d e,h.num,h.short⟩
structure IntAt (w:Vz) (b o:Nat) (z:Int) (a:Vx) (cap:Nat) (l:Vy):Prop where
 neg:w.cell? ⟨b,o,none⟩=some (.bool (decide (z<0)))
 abs:w.cell? ⟨b,o+1,none⟩=some (.slice a l.length cap)
 num:U32 w a cap l z.natAbs
 lt:b<w.heap.size
theorem IntAt.below{w w':Vz}{b o:Nat}{z:Int}{a:Vx}{cap:Nat}{l:Vy}(h:IntAt w b o z a cap l)(c:Below w.heap.size w w'):IntAt w' b o z a cap l:=
 ⟨ce c h.lt h.neg,ce c h.lt h.abs,h.num.below c,by have:=h.lt;have:=c.size;omega⟩
def putInt(C:Vw)(o:Nat)(neg:Bool)(v:Value):Array Value:=(C.setIfInBounds (o+1) v).setIfInBounds o (.bool neg)
structure Laid (w w':Vz) (b o:Nat) (t:Vr) (C:Vw) (z:Int) (a:Vx) (cap:Nat) (l:Vy):Prop where
 sb:SB w' b t (putInt C o (decide (z<0)) (.slice a l.length cap))
 num:U32 w' a cap l z.natAbs
 only:Only b w w'
theorem Laid.at{w w':Vz}{b o:Nat}{t:Vr}{C:Vw}{z:Int}{a:Vx}{cap:Nat}{l:Vy}(h:Laid w w' b o t C z a cap l)(c:o+1<C.size):IntAt w' b o z a cap l:=by
 refine⟨?_,?_,h.num,h.sb.lt⟩
 . have d:o<C.size:=by omega
   rw[h.sb.cell];simp[putInt,d]
 . rw[h.sb.cell];simp[putInt,c]
def ZC(w:Vz)(b:Nat):List Value→Prop
 |[x0]=>w.cell? ⟨b,0,none⟩=some x0∧True
 |[x0,x1]=>w.cell? ⟨b,0,none⟩=some x0∧w.cell? ⟨b,1,none⟩=some x1∧True
 |[x0,x1,x2]=>w.cell? ⟨b,0,none⟩=some x0∧w.cell? ⟨b,1,none⟩=some x1∧w.cell? ⟨b,2,none⟩=some x2∧True
 |[x0,x1,x2,x3]=>w.cell? ⟨b,0,none⟩=some x0∧w.cell? ⟨b,1,none⟩=some x1∧w.cell? ⟨b,2,none⟩=some x2∧w.cell? ⟨b,3,none⟩=some x3∧True
 |[x0,x1,x2,x3,x4]=>w.cell? ⟨b,0,none⟩=some x0∧w.cell? ⟨b,1,none⟩=some x1∧w.cell? ⟨b,2,none⟩=some x2∧w.cell? ⟨b,3,none⟩=some x3∧w.cell? ⟨b,4,none⟩=some x4∧True
 |[x0,x1,x2,x3,x4,x5]=>w.cell? ⟨b,0,none⟩=some x0∧w.cell? ⟨b,1,none⟩=some x1∧w.cell? ⟨b,2,none⟩=some x2∧w.cell? ⟨b,3,none⟩=some x3∧w.cell? ⟨b,4,none⟩=some x4∧w.cell? ⟨b,5,none⟩=some x5∧True
 |_=>True
theorem zc{w:Vz}{b:Nat}{t:Vr}{l:Vv}(h:SB w b t l.toArray):ZC w b l:=by
 unfold ZC
 split
 all_goals first|trivial|exact⟨h.cell 0,trivial⟩|exact⟨h.cell 0,h.cell 1,trivial⟩|exact⟨h.cell 0,h.cell 1,h.cell 2,trivial⟩|exact⟨h.cell 0,h.cell 1,h.cell 2,h.cell 3,trivial⟩|exact⟨h.cell 0,h.cell 1,h.cell 2,h.cell 3,h.cell 4,trivial⟩|exact⟨h.cell 0,h.cell 1,h.cell 2,h.cell 3,h.cell 4,h.cell 5,trivial⟩
theorem Ua{w W:Vz}{o:Obj}(h:w.alloc o=W):O (Below w.heap.size w W):=by rw[<-h];exact(Below.refl _ _).alloc (Nat.le_refl _) _
theorem Ub{w W:Vz}{o p:Obj}(h:(w.alloc o).alloc p=W):O (Below w.heap.size w W):=by rw[<-h];exact((Below.refl _ _).alloc (Nat.le_refl _) _).alloc (by simp) _
theorem Uc{w W:Vz}{t:Vr}{C:Vw}(h:w.alloc (.cells C t)=W):O (SB W w.heap.size t C):=by rw[<-h];exact SB.new w _ _
theorem Ud{w W:Vz}{t:Vr}{C:Vw}{o:Obj}(h:(w.alloc (.cells C t)).alloc o=W):O (SB W w.heap.size t C):=by rw[<-h];exact(SB.new w _ _).alloc _
theorem Ue{w W:Vz}{t:Vr}{C:Vw}{o:Obj}(h:(w.alloc o).alloc (.cells C t)=W):O (SB W (w.heap.size+1) t C):=Hi (by rw[<-h];have:=SB.new (w.alloc o) t C;simpa using this)
theorem Uf{w W:Vz}{B:Nat}{t:Vr}{C:Vw}(h:w.alloc (.cells C t)=W)(k:w.heap.size=B):O (SB W B t C):=k ▸ Uc h
theorem Ug{w W:Vz}{B:Nat}{t:Vr}{C:Vw}{o:Obj}(h:(w.alloc (.cells C t)).alloc o=W)(k:w.heap.size=B):O (SB W B t C):=k ▸ Ud h
theorem Uh{w W:Vz}{B:Nat}{t:Vr}{C:Vw}{o:Obj}(h:(w.alloc o).alloc (.cells C t)=W)(k:w.heap.size=B):O (SB W (B+1) t C):=k ▸ Ue h
theorem Qil{C:Vw}{i:Nat}(h:i<C.size):∃v,C[i]?=some v:=⟨C[i],by simp[h]⟩
theorem Qos(z:Int)(neg:Bool)(n:Nat)(a:z=if neg then -(n:Int) else (n:Int)):decide (z<0)=(neg && decide (0<n)):=by
 subst a;cases neg
 . simp
 .
  by_cases h:0<n
  . simp[h]
  .
   have:n=0:=by omega
   subst this;simp
theorem Qb3(b o:Nat)(t:Vr)(C:Vw)(neg:Bool)(a:Vx)(cap:Nat)(l:Vy)(n:Nat)(z:Int)(w:Vz)(f:SB w b t C)(u:NoInt C)(v:o+1<C.size)(r:U32 w a cap l n)(s:z=if neg then -(n:Int) else (n:Int)):
 Calls prog 114 #[.pointer (some ⟨b,o,none⟩),.bool neg,.slice a l.length cap] w fun e w'=>e=.returned (.pointer (some ⟨b,o,none⟩))/\Laid w w' b o t C z a cap l:=by
 obtain⟨A,g⟩:=Qil (C:=C) (i:=o) (by omega);obtain⟨B,h⟩:=Qil (C:=C) (i:=o+1) v;have x:=f.cell o;have y:=f.cell (o+1);rw[g] at x;rw[h] at y;have f0:=f.free o;have f1:=f.free (o+1);have j:z.natAbs=n:=by rw[s];split<;>omega
 have k:=Qos z neg n s;have d:decide (0<n)=decide (0<l.length):=by
  have:=r.num.len_zero (by decide);apply decide_eq_decide.2;omega
 obtain⟨q,m,p⟩:=Ib f j (k.trans (by rw[d]));clear f j k d s g h;cases neg
 .
  go_enter func114,ntmps114;go_wp2;go_ret;have c:Only b w ((w.setCell ⟨b,o+1,none⟩ (.slice a l.length cap)).setCell ⟨b,o,none⟩ (.bool false)):=((Only.refl b w).setCell _ _).setCell _ _;refine⟨rfl,⟨?_,?_,c⟩⟩
  . rw[p.o];exact(q.o.set (o+1) _).set o _
  . rw[m.o];exact r.only c q.o u
 .
  go_enter func114,ntmps114;go_wp2;go_ret;have c:Only b w ((w.setCell ⟨b,o+1,none⟩ (.slice a l.length cap)).setCell ⟨b,o,none⟩ (.bool (decide (0<l.length)))):=((Only.refl b w).setCell _ _).setCell _ _;refine⟨rfl,⟨?_,?_,c⟩⟩
  . rw[p.o];exact(q.o.set (o+1) _).set o _
  . rw[m.o];exact r.only c q.o u
def LaidOk(w:Vz)(b o:Nat)(t:Vr)(C:Vw)(z:Int)(e:Ending)(w':Vz):Prop:=
 e=.returned (.pointer (some ⟨b,o,none⟩))/\∃a cap l,Laid w w' b o t C z a cap l
theorem LaidOk.of{w w1 w':Vz}{b o:Nat}{t:Vr}{C:Vw}{z:Int}{e:Ending}(h:Only b w w1)(k:LaidOk w1 b o t C z e w'):LaidOk w b o t C z e w':=by
 obtain⟨d,a,cap,l,c⟩:=k;exact⟨d,a,cap,l,⟨c.sb,c.num,h.trans c.only⟩⟩
theorem Qfn(b o:Nat)(t:Vr)(C:Vw)(z:Int)(w:Vz)(c:SB w b t C)(d:NoInt C)(k:o+1<C.size)(f:0<=z)(p:z<1000000):
 Calls prog 115 #[.pointer (some ⟨b,o,none⟩),.int .i64 z] w (LaidOk w b o t C z):=by
 obtain⟨n,rfl⟩:=Int.eq_ofNat_of_zero_le f;obtain⟨g,m⟩:=Ia c d;have h:¬((n:Int)<0):=by omega
 clear c d f;go_enter func115,ntmps115;go_wp2_with fail;refine(Qbx (n:Int) _ (by omega) (by omega)).mono ?_;rintro e w1 ⟨⟨a,cap,l,rfl,i,_⟩,j⟩;rw[Int.toNat_natCast] at i;go_wp2_with fail;refine(Qb3 b o t C false a cap l n n w1 (g.o.below j g.o.lt) m.o k i (by simp)).mono ?_;rintro e w2 ⟨rfl,hl⟩;go_wp2;go_ret;exact LaidOk.of (Only.of_below j) ⟨rfl,_,_,_,hl⟩
theorem Tryz.int_zero:NoInt #[Value.bool false,Value.slice none 0 0]:=by
 intro i k n
 match i with
 |0=>simp
 |1=>simp
 |i+2=>simp
def IntNew(w:Vz)(z:Int)(e:Ending)(w':Vz):Prop:=
 (∃b a cap l,e=.returned (.pointer (some ⟨b,0,none⟩))/\w.heap.size<=b/\SB w' b 122 #[.bool (decide (z<0)),.slice a l.length cap]/\U32 w' a cap l z.natAbs)/\Below w.heap.size w w'
theorem Qbm(z:Int)(w:Vz)(b:0<=z)(c:z<1000000):
 Calls prog 67 #[.int .i64 z] w (IntNew w z):=by
 go_enter func67,ntmps67;go_wp2_with fail;refine(Qfn w.heap.size 0 122 _ z _ (SB.new w 122 _) Tryz.int_zero (by simp) b c).mono ?_;rintro e w2 ⟨rfl,a,cap,l,hl⟩;go_wp2;go_ret;exact⟨⟨w.heap.size,a,cap,l,rfl,Nat.le_refl _,hl.sb,hl.num⟩,Only.fresh ((Below.refl _ w).alloc lZ _) hl.only lZ⟩
theorem U32.drew{w:Vz}{a:Vx}{cap:Nat}{l:Vy}{n:Nat}(h:U32 w a cap l n):U32 w.drew a cap l n:=h.below bR.drew
theorem Qin(X:Int):X=if decide (X<0)=true then -(X.natAbs:Int) else (X.natAbs:Int):=by
 by_cases h:X<0
 . simp[h];omega
 . simp[h];omega
theorem Qc0(g m:Nat)(t:Vr)(C:Vw)(bx f:Nat)(X:Int)(a:Vx)(cap:Nat)(l:Vy)(w:Vz)(p:SB w g t C)(q:NoInt C)(s:m+1<C.size)(h:IntAt w bx f X a cap l)(i:bx≠g):
 Calls prog 116 #[.pointer (some ⟨g,m,none⟩),.pointer (some ⟨bx,f,none⟩)] w (LaidOk w g m t C X):=by
 have u:=h.neg;have v:=h.abs;have b:=h.lt;obtain⟨r,x,y⟩:=Ib p q h.num;clear p q h;go_enter func116,ntmps116;go_wp2;go_region_held3 (fun w'=>w'.cell? ⟨bx,f,none⟩=some (.bool (decide (X<0)))/\w'.cell? ⟨bx,f+1,none⟩=some (.slice a l.length cap)) ((simp [*]))
  (first
    |(go_at_call 155;refine(Qdl a cap l X.natAbs _ ?_).mono ?_;exact y.o.drew;rintro e w1 ⟨⟨z,j,rfl,k⟩,c⟩;have A:=ce c b u;have c1:=ce c b v;have n:=Hi k;have d:=Hi ((Below.refl w.heap.size w).drew.trans c);clear k c)
    |(go_at_call 114;refine(Qb3 g m t C _ z j l X.natAbs X _ ?_ x.o s n.o ?_).mono ?_;exact r.o.below d.o r.o.lt;exact Qin X;rintro e w2 ⟨rfl,hl⟩;have d0:=(World.cell?_of_block (a:=⟨bx,f,none⟩) (hl.only.block bx (Nat.lt_of_lt_of_le b d.o.size) i)).trans A;have d1:=(World.cell?_of_block (a:=⟨bx,f+1,none⟩) (hl.only.block bx (Nat.lt_of_lt_of_le b d.o.size) i)).trans c1;have B:=Hi hl;clear hl))
 go_wp2;go_ret;exact LaidOk.of (Only.of_below d.o) ⟨rfl,_,_,_,B.o⟩
def sgn(neg:Bool)(n:Nat):Int:=if neg then -(n:Int) else (n:Int)
theorem Qfo(X:Int):sgn (decide (X<0)) X.natAbs=X:=(Qin X).symm
theorem Qdy(neg:Bool)(n:Nat):(sgn neg n).natAbs=n:=by unfold sgn;split<;>omega
theorem Qio(d f:Bool)(g h:Vx)(c1 c2:Nat)(l m:Vy)(x y:Nat)(w:Vz)(v:U32 w g c1 l x)(z:U32 w h c2 m y)(hl:l.length<1099511627776)(A:m.length<1099511627776):
 Calls prog 200 #[.bool d,.slice g l.length c1,.bool f,.slice h m.length c2] w fun e w'=>(∃neg a cap r n,e=.returned (.tuple #[.bool neg,.slice a r.length cap])/\U32 w' a cap r n/\sgn neg n=sgn d x+sgn f y)/\Below w.heap.size w w':=by
 obtain⟨j,k⟩:=Ia v z;clear v z;by_cases c:d=f
 .
  subst c;have B:(d == d)=true:=by simp
  go_enter func200,ntmps200;go_wp2_with fail;refine(Qhh g h c1 c2 l m x y _ j.o k.o hl A).mono ?_;rintro e w1 ⟨⟨a,cap,r,rfl,p⟩,q⟩;go_wp2;go_ret2;exact⟨⟨d,a,cap,r,x+y,rfl,p,by unfold sgn;split<;>omega⟩,q⟩
 .
  have B:(d == f)=false:=by simp[c]
  by_cases s:cmp3 x y<0
  .
   have C:=(Qay x y).1 s;have i:=Hi c;have t:¬(0<=cmp3 x y):=by omega
   clear c s;go_enter func200,ntmps200;go_wp2_with fail;refine(Qbg g h c1 c2 l m x y _ j.o k.o).mono ?_;rintro e w1 ⟨rfl,b⟩;go_wp2_with fail;refine(Qhl h g c2 c1 m l y x _ (k.o.below b) (j.o.below b) (by omega)).mono ?_;rintro e w2 ⟨⟨a,cap,r,rfl,p⟩,q⟩;go_wp2;go_ret2;refine⟨⟨f,a,cap,r,y - x,rfl,p,?_⟩,b.trans (q.mono b.size)⟩;have:=i.o;unfold sgn;cases d<;>cases f<;>simp at this ⊢ <;>omega
  .
   have u:y<=x:=by have:=(Qay x y);omega
   have i:=Hi c;have t:0<=cmp3 x y:=by omega
   clear c s;go_enter func200,ntmps200;go_wp2_with fail;refine(Qbg g h c1 c2 l m x y _ j.o k.o).mono ?_;rintro e w1 ⟨rfl,b⟩;go_wp2_with fail;refine(Qhl g h c1 c2 l m x y _ (j.o.below b) (k.o.below b) u).mono ?_;rintro e w2 ⟨⟨a,cap,r,rfl,p⟩,q⟩;go_wp2;go_ret2;refine⟨⟨d,a,cap,r,x - y,rfl,p,?_⟩,b.trans (q.mono b.size)⟩;have:=i.o;unfold sgn;cases d<;>cases f<;>simp at this ⊢ <;>omega
theorem Qip{neg:Bool}{n:Nat}{Z:Int}(h:sgn neg n=Z):Z=if neg=true then -(n:Int) else (n:Int):=by
 rw[<-h];unfold sgn;cases neg<;>rfl
theorem Qot(X Y:Int):sgn (decide (X<0)) X.natAbs+sgn (!decide (Y<0)) Y.natAbs=X - Y:=by
 rw[Qfo];unfold sgn;by_cases h:Y<0
 . simp[h];omega
 . simp[h];omega
theorem Qou(X Y:Int):X*Y=if (decide (X<0) != decide (Y<0))=true then -((X.natAbs*Y.natAbs:Nat):Int) else ((X.natAbs*Y.natAbs:Nat):Int):=by
 rw[Int.natCast_mul];by_cases h:X<0
 .
  by_cases k:Y<0
  . rw[if_neg (by simp[h,k]),show ((X.natAbs:Nat):Int)= -X from by omega,show ((Y.natAbs:Nat):Int)= -Y from by omega,Int.neg_mul_neg]
  . rw[if_pos (by simp[h,k]),show ((X.natAbs:Nat):Int)= -X from by omega,show ((Y.natAbs:Nat):Int)=Y from by omega,Int.neg_mul,Int.neg_neg]
 .
  by_cases k:Y<0
  . rw[if_pos (by simp[h,k]),show ((X.natAbs:Nat):Int)=X from by omega,show ((Y.natAbs:Nat):Int)= -Y from by omega,Int.mul_neg,Int.neg_neg]
  . rw[if_neg (by simp[h,k]),show ((X.natAbs:Nat):Int)=X from by omega,show ((Y.natAbs:Nat):Int)=Y from by omega]
theorem Qov(j x:Nat)(t:Vr)(C:Vw)(bx k:Nat)(X:Int)(a:Vx)(cap:Nat)(l:Vy)(g n:Nat)(Y:Int)(b:Vx)(cap':Nat)(m:Vy)(w:Vz)(A:SB w j t C)(B:NoInt C)(F:x+1<C.size)(p:IntAt w bx k X a cap l)(q:IntAt w g n Y b cap' m)(r:bx≠j)(i:g≠j)(G:l.length+m.length<1099511627770):
 Calls prog 174 #[.pointer (some ⟨j,x,none⟩),.pointer (some ⟨bx,k,none⟩),.pointer (some ⟨g,n,none⟩)] w (LaidOk w j x t C (X+Y)):=by
 have H:=p.neg;have I:=p.abs;have J:=q.neg;have K:=q.abs;have h:=p.lt;have c:=q.lt;obtain⟨D,L,M,N⟩:=Ic A B p.num q.num;clear A B p q;go_enter func174,ntmps174;go_wp2;go_region_held3 (fun w'=>w'.cell? ⟨bx,k,none⟩=some (.bool (decide (X<0)))/\w'.cell? ⟨bx,k+1,none⟩=some (.slice a l.length cap)/\w'.cell? ⟨g,n,none⟩=some (.bool (decide (Y<0)))/\w'.cell? ⟨g,n+1,none⟩=some (.slice b m.length cap')) ((simp [*]))
  (first
    |(go_at_call 200;refine(Qio (decide (X<0)) (decide (Y<0)) a b cap cap' l m X.natAbs Y.natAbs _ ?_ ?_ ?_ ?_).mono ?_;exact M.o.drew;exact N.o.drew;omega;omega;rintro e w1 ⟨⟨E,O,s,P,n1,rfl,u,v⟩,d⟩;have y:=Hi v;clear v;have Q:=ce d h H;have c1:=ce d h I;have c2:=ce d c J;have c3:=ce d c K;have z:=Hi u;have f:=Hi ((Below.refl w.heap.size w).drew.trans d);clear u d)
    |(go_at_call 114;refine(Qb3 j x t C _ O s P n1 (X+Y) _ ?_ L.o F z.o ?_).mono ?_;exact D.o.below f.o D.o.lt;exact Qip (y.o.trans (by rw[Qfo,Qfo]));rintro e w2 ⟨rfl,hl⟩;have d0:=(World.cell?_of_block (a:=⟨bx,k,none⟩) (hl.only.block bx (Nat.lt_of_lt_of_le h f.o.size) r)).trans Q;have d1:=(World.cell?_of_block (a:=⟨bx,k+1,none⟩) (hl.only.block bx (Nat.lt_of_lt_of_le h f.o.size) r)).trans c1;have d2:=(World.cell?_of_block (a:=⟨g,n,none⟩) (hl.only.block g (Nat.lt_of_lt_of_le c f.o.size) i)).trans c2;have d3:=(World.cell?_of_block (a:=⟨g,n+1,none⟩) (hl.only.block g (Nat.lt_of_lt_of_le c f.o.size) i)).trans c3;have R:=Hi hl;clear hl))
 go_wp2;go_ret;exact LaidOk.of (Only.of_below f.o) ⟨rfl,_,_,_,R.o⟩
theorem Qow(j x:Nat)(t:Vr)(C:Vw)(bx k:Nat)(X:Int)(a:Vx)(cap:Nat)(l:Vy)(g n:Nat)(Y:Int)(b:Vx)(cap':Nat)(m:Vy)(w:Vz)(A:SB w j t C)(B:NoInt C)(F:x+1<C.size)(p:IntAt w bx k X a cap l)(q:IntAt w g n Y b cap' m)(r:bx≠j)(i:g≠j)(G:l.length+m.length<1099511627770):
 Calls prog 173 #[.pointer (some ⟨j,x,none⟩),.pointer (some ⟨bx,k,none⟩),.pointer (some ⟨g,n,none⟩)] w (LaidOk w j x t C (X - Y)):=by
 have H:=p.neg;have I:=p.abs;have J:=q.neg;have K:=q.abs;have h:=p.lt;have c:=q.lt;obtain⟨D,L,M,N⟩:=Ic A B p.num q.num;clear A B p q;go_enter func173,ntmps173;go_wp2;go_region_held3 (fun w'=>w'.cell? ⟨bx,k,none⟩=some (.bool (decide (X<0)))/\w'.cell? ⟨bx,k+1,none⟩=some (.slice a l.length cap)/\w'.cell? ⟨g,n,none⟩=some (.bool (decide (Y<0)))/\w'.cell? ⟨g,n+1,none⟩=some (.slice b m.length cap')) ((simp [*]))
  (first
    |(go_at_call 200;refine(Qio (decide (X<0)) (!decide (Y<0)) a b cap cap' l m X.natAbs Y.natAbs _ ?_ ?_ ?_ ?_).mono ?_;exact M.o.drew;exact N.o.drew;omega;omega;rintro e w1 ⟨⟨E,O,s,P,n1,rfl,u,v⟩,d⟩;have y:=Hi v;clear v;have Q:=ce d h H;have c1:=ce d h I;have c2:=ce d c J;have c3:=ce d c K;have z:=Hi u;have f:=Hi ((Below.refl w.heap.size w).drew.trans d);clear u d)
    |(go_at_call 114;refine(Qb3 j x t C _ O s P n1 (X - Y) _ ?_ L.o F z.o ?_).mono ?_;exact D.o.below f.o D.o.lt;exact Qip (y.o.trans (Qot X Y));rintro e w2 ⟨rfl,hl⟩;have d0:=(World.cell?_of_block (a:=⟨bx,k,none⟩) (hl.only.block bx (Nat.lt_of_lt_of_le h f.o.size) r)).trans Q;have d1:=(World.cell?_of_block (a:=⟨bx,k+1,none⟩) (hl.only.block bx (Nat.lt_of_lt_of_le h f.o.size) r)).trans c1;have d2:=(World.cell?_of_block (a:=⟨g,n,none⟩) (hl.only.block g (Nat.lt_of_lt_of_le c f.o.size) i)).trans c2;have d3:=(World.cell?_of_block (a:=⟨g,n+1,none⟩) (hl.only.block g (Nat.lt_of_lt_of_le c f.o.size) i)).trans c3;have R:=Hi hl;clear hl))
 go_wp2;go_ret;exact LaidOk.of (Only.of_below f.o) ⟨rfl,_,_,_,R.o⟩
theorem Qox(n x:Nat)(t:Vr)(C:Vw)(bx p:Nat)(X:Int)(a:Vx)(cap:Nat)(l:Vy)(g q:Nat)(Y:Int)(b:Vx)(cap':Nat)(m:Vy)(w:Vz)(A:SB w n t C)(B:NoInt C)(E:x+1<C.size)(r:IntAt w bx p X a cap l)(s:IntAt w g q Y b cap' m)(u:bx≠n)(i:g≠n)(F:l.length+m.length<1099511627770):
 Calls prog 72 #[.pointer (some ⟨n,x,none⟩),.pointer (some ⟨bx,p,none⟩),.pointer (some ⟨g,q,none⟩)] w (LaidOk w n x t C (X*Y)):=by
 have G:=r.neg;have H:=r.abs;have I:=s.neg;have J:=s.abs;have h:=r.lt;have c:=s.lt;obtain⟨D,K,L,M⟩:=Ic A B r.num s.num;clear A B r s;go_enter func72,ntmps72;go_wp2;go_region_held3 (fun w'=>w'.cell? ⟨bx,p,none⟩=some (.bool (decide (X<0)))/\w'.cell? ⟨bx,p+1,none⟩=some (.slice a l.length cap)/\w'.cell? ⟨g,q,none⟩=some (.bool (decide (Y<0)))/\w'.cell? ⟨g,q+1,none⟩=some (.slice b m.length cap')) ((simp [*]))
  (first
    |(go_at_call 112;refine(Qhj a b cap cap' l m X.natAbs Y.natAbs _ ?_ ?_ ?_).mono ?_;exact L.o.drew;exact M.o.drew;omega;rintro e w1 ⟨⟨N,v,O,rfl,j⟩,d⟩;obtain⟨n1,k⟩:=nm (X.natAbs*Y.natAbs);rw[k] at j;have y:=Hi k;clear k;have P:=ce d h G;have c1:=ce d h H;have c2:=ce d c I;have c3:=ce d c J;have z:=Hi j;have f:=Hi ((Below.refl w.heap.size w).drew.trans d);clear j d)
    |(go_at_call 114;refine(Qb3 n x t C _ N v O n1 (X*Y) _ ?_ K.o E z.o ?_).mono ?_;exact D.o.below f.o D.o.lt;exact(by rw[<-y.o];exact Qou X Y);rintro e w2 ⟨rfl,hl⟩;have d0:=(World.cell?_of_block (a:=⟨bx,p,none⟩) (hl.only.block bx (Nat.lt_of_lt_of_le h f.o.size) u)).trans P;have d1:=(World.cell?_of_block (a:=⟨bx,p+1,none⟩) (hl.only.block bx (Nat.lt_of_lt_of_le h f.o.size) u)).trans c1;have d2:=(World.cell?_of_block (a:=⟨g,q,none⟩) (hl.only.block g (Nat.lt_of_lt_of_le c f.o.size) i)).trans c2;have d3:=(World.cell?_of_block (a:=⟨g,q+1,none⟩) (hl.only.block g (Nat.lt_of_lt_of_le c f.o.size) i)).trans c3;have Q:=Hi hl;clear hl))
 go_wp2;go_ret;exact LaidOk.of (Only.of_below f.o) ⟨rfl,_,_,_,Q.o⟩
end Go.Proofs.YtppkmifkpjkgpaaGreatDoor
