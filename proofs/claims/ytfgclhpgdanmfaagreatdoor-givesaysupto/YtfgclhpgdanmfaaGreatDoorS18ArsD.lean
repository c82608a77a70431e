import Derived.Test.YtfgclhpgdanmfaaGreatDoorS17TcA
namespace Go.Proofs.YtfgclhpgdanmfaaGreatDoor
set_option linter.defProp false
open Go.RowKit
open Go.Proofs.Tryz
set_option linter.unusedSimpArgs false
set_option linter.unusedVariables false
set_option maxHeartbeats 8000000
set_option maxRecDepth 1000000
variable{W Y w w1:Vz}{t:Vr}{n sz:Nat}{a:Vx}{C b:Vw}{MK xs:Vv}
structure rc (w W:Vz) (t:Vr) (sz n:Nat) (a:Vx) (C MC:Vw) (xs MK:Vv):Prop where
 b0:Bl w W
 sb:SB W w.heap.size t C
 lt:w.heap.size<W.heap.size
 c:mA W a xs
 ml:MK.length=3*sz
 m1:∀u∈ MK,u.oneCell'=true
 ow:(W.alloc (.cells MC t)).ownsRow W.heap.size t sz (.slice (some ⟨W.heap.size,0,none⟩) 0 (n+3)) 0 []
 A:Bl W (W.alloc (.cells MC t)).drew
 AX:Bl W ((W.alloc (.cells MK.toArray t)).alloc (.cells MC t)).drew
 OX:((W.alloc (.cells MK.toArray t)).alloc (.cells MC t)).drew.ownsRow W.heap.size t sz (.slice (some ⟨W.heap.size+1,0,none⟩) 0 (n+3)) 0 []
 BC:∀(X:Vz)(j:Nat)(u:Ac),MK[j]?=some u->(X.alloc (.cells MK.toArray t)).cell? ⟨X.heap.size,j,none⟩=some u
def rc.of{c:Vw}(d:mA w a xs)(b:c.size=(n+3)*sz)(h:n<=1048576)(hl:MK.length=3*sz)(f:∀u∈ MK,u.oneCell'=true):rc w (w.alloc (.cells C t)) t sz n a C c xs MK:=by
 have hb:Bl w (w.alloc (.cells C t)):=bR.alloc lZ _;refine⟨hb,cK _ _ _,sS,d.below hb,hl,f,oU _ c (n+3) lZ mZ b,(bR.alloc lZ _).drew,((bR.alloc lZ _).alloc sS _).drew,?_,fun X j u g=>?_⟩
 . have:=oU ((w.alloc (.cells C t)).alloc (.cells MK.toArray t)) c (n+3) (base:=(w.alloc (.cells C t)).heap.size) (e:=t) sS mZ b;simp only[bH]at this ⊢;exact this
 . rw[(cK X t MK.toArray).cell j]
   simpa using g
def rc.bb(h:rc w W t sz n a C b xs MK)(d:Y.grownBy w1 (some W.heap.size))(c:Y.heap=((W.alloc (.cells b t)).alloc (.cells MK.toArray t)).heap:=by rfl)(j:Nat)(u:Ac)(f:MK[j]?=some u):w1.cell? ⟨W.heap.size+1,j,none⟩=some u:=by
 have e:Y.cell? ⟨W.heap.size+1,j,none⟩=((W.alloc (.cells b t)).alloc (.cells MK.toArray t)).cell? ⟨W.heap.size+1,j,none⟩:=by unfold World.cell?;rw[c]
 refine(Oe d (by rw[c];simp<;>omega) sS).trans (e.trans ?_);have:=h.BC (W.alloc (.cells b t)) j u f;rw[bH]at this;exact this
def rc.bx(h:rc w W t sz n a C b xs MK)(d:Y.grownBy w1 (some (W.heap.size+1)))(c:Y.heap=((W.alloc (.cells MK.toArray t)).alloc (.cells b t)).heap:=by rfl)(j:Nat)(u:Ac)(f:MK[j]?=some u):w1.cell? ⟨W.heap.size,j,none⟩=some u:=by
 have e:Y.cell? ⟨W.heap.size,j,none⟩=((W.alloc (.cells MK.toArray t)).alloc (.cells b t)).cell? ⟨W.heap.size,j,none⟩:=by unfold World.cell?;rw[c]
 refine(Oe d (by rw[c];simp<;>omega) sS).trans (e.trans ?_);exact(((ac _ (W.alloc (.cells MK.toArray t))).alloc lZ (.cells b t)).cell (p:=⟨W.heap.size,j,none⟩) sS).trans (h.BC W j u f)
def Iu{ST ET:Vr}{bytes:Nat}{z:Ac}(h:(prog.info? ET).map (fun i=>(i.zero,i.size,i.bytes))=some (some z,sz,bytes))(hb:bytes<=80)(d:prog.underlying ST=some (.slice ET))(n:Nat)(j:n<=1048576):∃(i:AT)(a:Vw),prog.info? ET=some i/\i.size=sz/\a.size=(n+3)*sz/\∀w,(Instr.makeSlice ST (.int .i64 0) (.int .i64 (IntKind.i64.wrap ((n:Int)+3)))).run prog w=.ok (.slice (some ⟨w.heap.size,0,none⟩) 0 (n+3)) (w.alloc (.cells a ET)):=by obtain⟨i,b,h⟩:=aZ.1 h;simp only[fZ]at h;obtain⟨f,c,g⟩:=h;refine⟨i,madeCells z.cells ((n+3)*sz),b,c,wN _ _,fun w=>?_⟩;have k:(bytes:Int)*((n:Int)+3)<=80*1048579:=Int.mul_le_mul oO oO oO oO;have:=qJ w ST ET i _ d b f .i64 .i64 0 ((n:Int)+3) oO oO (rO g) oO;have e:((n:Int)+3).toNat=n+3:=oO;rw[e,c]at this;rw[show IntKind.i64.wrap ((n:Int)+3)=(n:Int)+3 by rw[IntKind.wrap_i64];omega];exact this
section
variable {P:Au} {t e:Vr} {i:AT} {size:Nat}
def zL(v:P.underlying t=some (.slice e))(y:P.info? e=some i)(d:i.size=size)(z:0<size){ops:Af}{o:Oper}{a:Act}{w W:Vz}{K:Ar}{Q:Ab}{E:Prop}(A:o.guard=none)(s x:AV)(j:o.op=Op.call { callee:=Callee.builtin Builtin.append,args:=#[s,x],argTypes:=#[t,t] }){g c n cap b:Nat}{q:Vx}{xs:Vv}{C:Vw}(B:a.eval s=.slice (some ⟨g,0,none⟩) 0 c)(D:a.eval x=.slice q n cap)(h:w.ownsRow W.heap.size e size (.slice (some ⟨g,0,none⟩) 0 c) 0 [])(F:mA W q xs)(hl:xs.length=n*size)(G:∀u∈ xs,u.oneCell'=true)(f:n<=c)(hB:Bl W w)(k:W.heap.size<=g)(l:SB W b e C)(hb:b<W.heap.size)(H:∀w',O (w'.ownsRow W.heap.size e size (.slice (some ⟨g,0,none⟩) n c) n xs)->W.heap.size<w'.heap.size->O (Bl W w')->SB w' b e C->w.grownBy w' (some g)->K (a.put o.dst (.slice (some ⟨g,0,none⟩) n c)) w')(m:W.heap.size<w.heap.size:=by simp<;>omega):
 if Region.wanted o (yielded ops a.tmps)=true then Oper.wp P o a w K Q else E:=
 VG v y d z A s x j W.heap.size B D h (F.below hB) hl G f fun w' I p=>
  have r:=FT hB p hB.size k
  H w' (Hi I) (aF m p.size) (Hi r) (l.below r hb) p
def Dy(y:P.underlying t=some (.slice e))(z:P.info? e=some i)(f:i.size=size){ops:Af}{o:Oper}{a:Act}{w W:Vz}{K:Ar}{Q:Ab}{E:Prop}(A:o.guard=none)(s x:AV)(l:o.op=Op.call { callee:=Callee.builtin Builtin.append,args:=#[s,x],argTypes:=#[t,t] }){g c n m cap v b:Nat}{xs d:Vv}{C:Vw}(B:a.eval s=.slice (some ⟨g,0,none⟩) n c)(D:a.eval x=.slice (some ⟨v,0,none⟩) m cap)(k:w.ownsRow W.heap.size e size (.slice (some ⟨g,0,none⟩) n c) n xs)(hl:d.length=m*size)(F:∀j u,d[j]?=some u->w.cell? ⟨v,j,none⟩=some u)(G:∀u∈ d,u.oneCell'=true)(h:n+m<=c)(hB:Bl W w)(p:W.heap.size<=g)(q:SB W b e C)(hb:b<W.heap.size)(H:∀w',O (w'.ownsRow W.heap.size e size (.slice (some ⟨g,0,none⟩) (n+m) c) (n+m) (xs++d))->W.heap.size<=w'.heap.size->O (Bl W w')->SB w' b e C->K (a.put o.dst (.slice (some ⟨g,0,none⟩) (n+m) c)) w'):
 if Region.wanted o (yielded ops a.tmps)=true then Oper.wp P o a w K Q else E:=
 VF y z f A s x l W.heap.size B D k hl F G h fun w' I J=>
  have r:=FT hB J hB.size p
  H w' (Hi I) r.size (Hi r) (q.below r hb)
end
def VE(a:Vx)(cap:Nat)(j:Ad)(m0:Vs)(f:Vs)(w:Vz)(H:eO S2.cells w a cap j)(I:j.length<=1048576):
 Calls prog 28 #[.slice a j.length cap,.agg #[.string m0,.string f]] w fun e w'=>∃g,w.heap.size<=g/\e=.returned (.slice (some ⟨g,0,none⟩) j.length (j.length+3))/\eO S2.cells w' (some ⟨g,0,none⟩) (j.length+3) (j++ [⟨m0,f⟩,⟨m0,f⟩,⟨m0,f⟩])/\Below w.heap.size w w':=by
 obtain⟨i,N,J,K,s,L⟩:=Iu (ST:=22) (ET:=34) (sz:=2) (bytes:=32) (z:=.agg #[.string ⟨#[]⟩,.string ⟨#[]⟩]) kK dD underlying22 j.length I;obtain⟨u,v,l,p,b⟩:=Id J K (xz (c:=S2.cells) (sz:=2) (fun _=>rfl) j) (IB S2.one j) (rc.of (t:=34) (C:=#[.string m0,.string f]) (MK:=[.string m0,.string f,.string m0,.string f,.string m0,.string f]) (sz:=2) H.row s I rfl (by simp[Value.oneCell']));obtain⟨xs,r⟩:=nm (j.flatMap S2.cells);rw[r]at l p b;have F:=Hi r;clear J K s H r;go_enter func28,ntmps28;go_wp2_with fail;obtain⟨W,hW⟩:=nm (w.alloc (.cells #[.string m0,.string f] 34));rw[hW]at b ⊢;have d:=b.o.sb;have M:=d.lt;obtain⟨x,c1⟩:=xq d;clear d hW;go_region_held3 (fun w'=>w'.cell? ⟨w.heap.size,0,none⟩=some (.string m0)/\w'.cell? ⟨w.heap.size,1,none⟩=some (.string f)) ((first|(simp [*];done)|go_keep)) (first
  |(
   refine zL underlying22 u.o v.o dD rfl (.tmp 9) (.tmp 10) rfl (xs:=xs) rfl rfl b.o.ow b.o.c l.o p.o oO b.o.A lZ b.o.sb b.o.lt ?_;intro w1 q y k d h;obtain⟨x,c1⟩:=xq d
   clear d h)
  |(
   refine Dy underlying22 u.o v.o rfl (.tmp 11) (.tmp 15) rfl (xs:=xs) (n:=j.length) (m:=3) rfl rfl (q.o.alloc _) b.o.ml (b.o.BC w1) b.o.m1 lZ (k.o.alloc k.o.size _) lZ b.o.sb b.o.lt ?_;intro w2 B G D d;obtain⟨x,c1⟩:=xq d
   clear d)
  |(
   refine zL underlying22 u.o v.o dD rfl (.tmp 9) (.tmp 10) rfl (xs:=xs) rfl rfl (b.o.ow.alloc (.cells #[.string m0,.string f,.string m0,.string f,.string m0,.string f] 34)) b.o.c l.o p.o oO (b.o.A.alloc b.o.A.size (.cells #[.string m0,.string f,.string m0,.string f,.string m0,.string f] 34)) lZ b.o.sb b.o.lt ?_;intro w1 q y k d h;obtain⟨x,c1⟩:=xq d;have E:=Hi (b.o.bb h)
   clear d h)
  |(
   refine zL underlying22 u.o v.o dD rfl (.tmp 9) (.tmp 10) rfl (xs:=xs) (g:=W.heap.size+1) rfl rfl b.o.OX b.o.c l.o p.o oO b.o.AX oO b.o.sb b.o.lt ?_;intro w1 q y k d h;obtain⟨x,c1⟩:=xq d;have E:=Hi (b.o.bx h)
   clear d h)
  |(
   refine Dy underlying22 u.o v.o rfl (.tmp 11) (.tmp 15) rfl (xs:=xs) (n:=j.length) (m:=3) rfl rfl q.o b.o.ml E.o b.o.m1 lZ k.o oO b.o.sb b.o.lt ?_;intro w2 B G D d;obtain⟨x,c1⟩:=xq d
   clear d)
  )
 all_goals
  go_wp2;go_ret;exact⟨_,oO,rfl,⟨sS,by rw[jw,F.o];exact GL B.o⟩,b.o.b0.trans (D.o.mono b.o.b0.size)⟩
def VD(a:Vx)(cap:Nat)(q:Ap)(m0:Int)(f:Int)(h:Vs)(j:Vs)(k:Vs)(l:Vs)(w:Vz)(L:eO B6.cells w a cap q)(M:q.length<=1048576):
 Calls prog 29 #[.slice a q.length cap,.agg #[.int .i64 m0,.int .i64 f,.string h,.string j,.string k,.string l]] w fun e w'=>∃g,w.heap.size<=g/\e=.returned (.slice (some ⟨g,0,none⟩) q.length (q.length+3))/\eO B6.cells w' (some ⟨g,0,none⟩) (q.length+3) (q++ [⟨m0,f,h,j,k,l⟩,⟨m0,f,h,j,k,l⟩,⟨m0,f,h,j,k,l⟩])/\Below w.heap.size w w':=by
 obtain⟨i,S,N,O,y,Q⟩:=Iu (ST:=23) (ET:=72) (sz:=6) (bytes:=80) (z:=.agg #[.int .i64 0,.int .i64 0,.string ⟨#[]⟩,.string ⟨#[]⟩,.string ⟨#[]⟩,.string ⟨#[]⟩]) kK dD underlying23 q.length M;obtain⟨B,D,s,u,b⟩:=Id N O (xz (c:=B6.cells) (sz:=6) (fun _=>rfl) q) (IB B6.one q) (rc.of (t:=72) (C:=#[.int .i64 m0,.int .i64 f,.string h,.string j,.string k,.string l]) (MK:=[.int .i64 m0,.int .i64 f,.string h,.string j,.string k,.string l,.int .i64 m0,.int .i64 f,.string h,.string j,.string k,.string l,.int .i64 m0,.int .i64 f,.string h,.string j,.string k,.string l]) (sz:=6) L.row y M rfl (by simp[Value.oneCell']));obtain⟨xs,x⟩:=nm (q.flatMap B6.cells);rw[x]at s u b;have J:=Hi x;clear N O y L x;go_enter func29,ntmps29;go_wp2_with fail;obtain⟨W,hW⟩:=nm (w.alloc (.cells #[.int .i64 m0,.int .i64 f,.string h,.string j,.string k,.string l] 72));rw[hW]at b ⊢;have d:=b.o.sb;have R:=d.lt;obtain⟨E,c1,c2,c3,c4,c5⟩:=BY d;clear d hW;go_region_held3 (fun w'=>w'.cell? ⟨w.heap.size,0,none⟩=some (.int .i64 m0)/\w'.cell? ⟨w.heap.size,1,none⟩=some (.int .i64 f)/\w'.cell? ⟨w.heap.size,2,none⟩=some (.string h)/\w'.cell? ⟨w.heap.size,3,none⟩=some (.string j)/\w'.cell? ⟨w.heap.size,4,none⟩=some (.string k)/\w'.cell? ⟨w.heap.size,5,none⟩=some (.string l)) ((first|(simp [*];done)|go_keep)) (first
  |(
   refine zL underlying23 B.o D.o dD rfl (.tmp 9) (.tmp 10) rfl (xs:=xs) rfl rfl b.o.ow b.o.c s.o u.o oO b.o.A lZ b.o.sb b.o.lt ?_;intro w1 v F r d p;obtain⟨E,c1,c2,c3,c4,c5⟩:=BY d
   clear d p)
  |(
   refine Dy underlying23 B.o D.o rfl (.tmp 11) (.tmp 15) rfl (xs:=xs) (n:=q.length) (m:=3) rfl rfl (v.o.alloc _) b.o.ml (b.o.BC w1) b.o.m1 lZ (r.o.alloc r.o.size _) lZ b.o.sb b.o.lt ?_;intro w2 G K H d;obtain⟨E,c1,c2,c3,c4,c5⟩:=BY d
   clear d)
  |(
   refine zL underlying23 B.o D.o dD rfl (.tmp 9) (.tmp 10) rfl (xs:=xs) rfl rfl (b.o.ow.alloc (.cells #[.int .i64 m0,.int .i64 f,.string h,.string j,.string k,.string l,.int .i64 m0,.int .i64 f,.string h,.string j,.string k,.string l,.int .i64 m0,.int .i64 f,.string h,.string j,.string k,.string l] 72)) b.o.c s.o u.o oO (b.o.A.alloc b.o.A.size (.cells #[.int .i64 m0,.int .i64 f,.string h,.string j,.string k,.string l,.int .i64 m0,.int .i64 f,.string h,.string j,.string k,.string l,.int .i64 m0,.int .i64 f,.string h,.string j,.string k,.string l] 72)) lZ b.o.sb b.o.lt ?_;intro w1 v F r d p;obtain⟨E,c1,c2,c3,c4,c5⟩:=BY d;have I:=Hi (b.o.bb p)
   clear d p)
  |(
   refine zL underlying23 B.o D.o dD rfl (.tmp 9) (.tmp 10) rfl (xs:=xs) (g:=W.heap.size+1) rfl rfl b.o.OX b.o.c s.o u.o oO b.o.AX oO b.o.sb b.o.lt ?_;intro w1 v F r d p;obtain⟨E,c1,c2,c3,c4,c5⟩:=BY d;have I:=Hi (b.o.bx p)
   clear d p)
  |(
   refine Dy underlying23 B.o D.o rfl (.tmp 11) (.tmp 15) rfl (xs:=xs) (n:=q.length) (m:=3) rfl rfl v.o b.o.ml I.o b.o.m1 lZ r.o oO b.o.sb b.o.lt ?_;intro w2 G K H d;obtain⟨E,c1,c2,c3,c4,c5⟩:=BY d
   clear d)
  )
 all_goals
  go_wp2;go_ret;exact⟨_,oO,rfl,⟨sS,by rw[jw,J.o];exact GL G.o⟩,b.o.b0.trans (H.o.mono b.o.b0.size)⟩
def VC(a:Vx)(cap:Nat)(k:Ak)(m0:Int)(f:Int)(h:Vs)(w:Vz)(I:eO H3.cells w a cap k)(J:k.length<=1048576):
 Calls prog 30 #[.slice a k.length cap,.agg #[.int .i64 m0,.int .i64 f,.string h]] w fun e w'=>∃g,w.heap.size<=g/\e=.returned (.slice (some ⟨g,0,none⟩) k.length (k.length+3))/\eO H3.cells w' (some ⟨g,0,none⟩) (k.length+3) (k++ [⟨m0,f,h⟩,⟨m0,f,h⟩,⟨m0,f,h⟩])/\Below w.heap.size w w':=by
 obtain⟨i,O,K,L,u,M⟩:=Iu (ST:=24) (ET:=74) (sz:=3) (bytes:=32) (z:=.agg #[.int .i64 0,.int .i64 0,.string ⟨#[]⟩]) kK dD underlying24 k.length J;obtain⟨v,x,p,q,b⟩:=Id K L (xz (c:=H3.cells) (sz:=3) (fun _=>rfl) k) (IB H3.one k) (rc.of (t:=74) (C:=#[.int .i64 m0,.int .i64 f,.string h]) (MK:=[.int .i64 m0,.int .i64 f,.string h,.int .i64 m0,.int .i64 f,.string h,.int .i64 m0,.int .i64 f,.string h]) (sz:=3) I.row u J rfl (by simp[Value.oneCell']));obtain⟨xs,s⟩:=nm (k.flatMap H3.cells);rw[s]at p q b;have G:=Hi s;clear K L u I s;go_enter func30,ntmps30;go_wp2_with fail;obtain⟨W,hW⟩:=nm (w.alloc (.cells #[.int .i64 m0,.int .i64 f,.string h] 74));rw[hW]at b ⊢;have d:=b.o.sb;have N:=d.lt;obtain⟨y,c1,c2⟩:=lQ d;clear d hW;go_region_held3 (fun w'=>w'.cell? ⟨w.heap.size,0,none⟩=some (.int .i64 m0)/\w'.cell? ⟨w.heap.size,1,none⟩=some (.int .i64 f)/\w'.cell? ⟨w.heap.size,2,none⟩=some (.string h)) ((first|(simp [*];done)|go_keep)) (first
  |(
   refine zL underlying24 v.o x.o dD rfl (.tmp 9) (.tmp 10) rfl (xs:=xs) rfl rfl b.o.ow b.o.c p.o q.o oO b.o.A lZ b.o.sb b.o.lt ?_;intro w1 r B l d j;obtain⟨y,c1,c2⟩:=lQ d
   clear d j)
  |(
   refine Dy underlying24 v.o x.o rfl (.tmp 11) (.tmp 15) rfl (xs:=xs) (n:=k.length) (m:=3) rfl rfl (r.o.alloc _) b.o.ml (b.o.BC w1) b.o.m1 lZ (l.o.alloc l.o.size _) lZ b.o.sb b.o.lt ?_;intro w2 D H E d;obtain⟨y,c1,c2⟩:=lQ d
   clear d)
  |(
   refine zL underlying24 v.o x.o dD rfl (.tmp 9) (.tmp 10) rfl (xs:=xs) rfl rfl (b.o.ow.alloc (.cells #[.int .i64 m0,.int .i64 f,.string h,.int .i64 m0,.int .i64 f,.string h,.int .i64 m0,.int .i64 f,.string h] 74)) b.o.c p.o q.o oO (b.o.A.alloc b.o.A.size (.cells #[.int .i64 m0,.int .i64 f,.string h,.int .i64 m0,.int .i64 f,.string h,.int .i64 m0,.int .i64 f,.string h] 74)) lZ b.o.sb b.o.lt ?_;intro w1 r B l d j;obtain⟨y,c1,c2⟩:=lQ d;have F:=Hi (b.o.bb j)
   clear d j)
  |(
   refine zL underlying24 v.o x.o dD rfl (.tmp 9) (.tmp 10) rfl (xs:=xs) (g:=W.heap.size+1) rfl rfl b.o.OX b.o.c p.o q.o oO b.o.AX oO b.o.sb b.o.lt ?_;intro w1 r B l d j;obtain⟨y,c1,c2⟩:=lQ d;have F:=Hi (b.o.bx j)
   clear d j)
  |(
   refine Dy underlying24 v.o x.o rfl (.tmp 11) (.tmp 15) rfl (xs:=xs) (n:=k.length) (m:=3) rfl rfl r.o b.o.ml F.o b.o.m1 lZ l.o oO b.o.sb b.o.lt ?_;intro w2 D H E d;obtain⟨y,c1,c2⟩:=lQ d
   clear d)
  )
 all_goals
  go_wp2;go_ret;exact⟨_,oO,rfl,⟨sS,by rw[jw,G.o];exact GL D.o⟩,b.o.b0.trans (E.o.mono b.o.b0.size)⟩
def VB(a:Vx)(cap:Nat)(k:AE)(m0:Int)(f:Vs)(h:Vs)(w:Vz)(I:eO L3.cells w a cap k)(J:k.length<=1048576):
 Calls prog 6 #[.slice a k.length cap,.agg #[.int .i64 m0,.string f,.string h]] w fun e w'=>∃g,w.heap.size<=g/\e=.returned (.slice (some ⟨g,0,none⟩) k.length (k.length+3))/\eO L3.cells w' (some ⟨g,0,none⟩) (k.length+3) (k++ [⟨m0,f,h⟩,⟨m0,f,h⟩,⟨m0,f,h⟩])/\Below w.heap.size w w':=by
 obtain⟨i,O,K,L,u,M⟩:=Iu (ST:=27) (ET:=36) (sz:=3) (bytes:=40) (z:=.agg #[.int .i64 0,.string ⟨#[]⟩,.string ⟨#[]⟩]) kK dD underlying27 k.length J;obtain⟨v,x,p,q,b⟩:=Id K L (xz (c:=L3.cells) (sz:=3) (fun _=>rfl) k) (IB L3.one k) (rc.of (t:=36) (C:=#[.int .i64 m0,.string f,.string h]) (MK:=[.int .i64 m0,.string f,.string h,.int .i64 m0,.string f,.string h,.int .i64 m0,.string f,.string h]) (sz:=3) I.row u J rfl (by simp[Value.oneCell']));obtain⟨xs,s⟩:=nm (k.flatMap L3.cells);rw[s]at p q b;have G:=Hi s;clear K L u I s;go_enter func6,ntmps6;go_wp2_with fail;obtain⟨W,hW⟩:=nm (w.alloc (.cells #[.int .i64 m0,.string f,.string h] 36));rw[hW]at b ⊢;have d:=b.o.sb;have N:=d.lt;obtain⟨y,c1,c2⟩:=lQ d;clear d hW;go_region_held3 (fun w'=>w'.cell? ⟨w.heap.size,0,none⟩=some (.int .i64 m0)/\w'.cell? ⟨w.heap.size,1,none⟩=some (.string f)/\w'.cell? ⟨w.heap.size,2,none⟩=some (.string h)) ((first|(simp [*];done)|go_keep)) (first
  |(
   refine zL underlying27 v.o x.o dD rfl (.tmp 9) (.tmp 10) rfl (xs:=xs) rfl rfl b.o.ow b.o.c p.o q.o oO b.o.A lZ b.o.sb b.o.lt ?_;intro w1 r B l d j;obtain⟨y,c1,c2⟩:=lQ d
   clear d j)
  |(
   refine Dy underlying27 v.o x.o rfl (.tmp 11) (.tmp 15) rfl (xs:=xs) (n:=k.length) (m:=3) rfl rfl (r.o.alloc _) b.o.ml (b.o.BC w1) b.o.m1 lZ (l.o.alloc l.o.size _) lZ b.o.sb b.o.lt ?_;intro w2 D H E d;obtain⟨y,c1,c2⟩:=lQ d
   clear d)
  |(
   refine zL underlying27 v.o x.o dD rfl (.tmp 9) (.tmp 10) rfl (xs:=xs) rfl rfl (b.o.ow.alloc (.cells #[.int .i64 m0,.string f,.string h,.int .i64 m0,.string f,.string h,.int .i64 m0,.string f,.string h] 36)) b.o.c p.o q.o oO (b.o.A.alloc b.o.A.size (.cells #[.int .i64 m0,.string f,.string h,.int .i64 m0,.string f,.string h,.int .i64 m0,.string f,.string h] 36)) lZ b.o.sb b.o.lt ?_;intro w1 r B l d j;obtain⟨y,c1,c2⟩:=lQ d;have F:=Hi (b.o.bb j)
   clear d j)
  |(
   refine zL underlying27 v.o x.o dD rfl (.tmp 9) (.tmp 10) rfl (xs:=xs) (g:=W.heap.size+1) rfl rfl b.o.OX b.o.c p.o q.o oO b.o.AX oO b.o.sb b.o.lt ?_;intro w1 r B l d j;obtain⟨y,c1,c2⟩:=lQ d;have F:=Hi (b.o.bx j)
   clear d j)
  |(
   refine Dy underlying27 v.o x.o rfl (.tmp 11) (.tmp 15) rfl (xs:=xs) (n:=k.length) (m:=3) rfl rfl r.o b.o.ml F.o b.o.m1 lZ l.o oO b.o.sb b.o.lt ?_;intro w2 D H E d;obtain⟨y,c1,c2⟩:=lQ d
   clear d)
  )
 all_goals
  go_wp2;go_ret;exact⟨_,oO,rfl,⟨sS,by rw[jw,G.o];exact GL D.o⟩,b.o.b0.trans (E.o.mono b.o.b0.size)⟩
def Rl(g:Nat)(a:Vx)(cap:Nat)(b:Ad)(m0:Vs)(n:Vs)(w:Vz)(hl:eO S2.cells w (some ⟨g,0,none⟩) (b.length+3) (b++ [⟨m0,n⟩,⟨m0,n⟩,⟨m0,n⟩]))(B:eO S2.cells w a cap b)(T:b.length<=1048576):
 Calls prog 66 #[.slice (some ⟨g,0,none⟩) b.length (b.length+3),.slice a b.length cap,.agg #[.string m0,.string n]] w fun e w'=>e=.returned (.bool true)/\Below w.heap.size w w':=by
 obtain⟨F,G⟩:=Ia hl B;clear hl B;go_enter func66,ntmps66;go_wp2_with fail;obtain⟨W,hW⟩:=nm (w.alloc (.cells #[.string m0,.string n] 34));have i:=Ua hW;have q:=Uc hW;have H:=q.o.lt;rw[hW];clear hW;go_loopw [17] (fun z wr=>∃k:Nat,k<=b.length+3/\z=.int .i64 k/\Below W.heap.size W wr) (fun z _=>b.length+3 - (intOf z).toNat)
 case atStart=>exact⟨0,oO,rfl,ac _ _⟩
 case round=>
  obtain⟨k,hk,rfl,hb⟩:=hrel;have v:=Hi hb;have I:=hb.size;clear hb;by_cases r:k<b.length+3
  .
   obtain⟨f,c⟩:∃f,(b++ [⟨m0,n⟩,⟨m0,n⟩,⟨m0,n⟩])[k]?=some f:=⟨_,gE (sU r)⟩;obtain⟨U,J,s,K,C,c1⟩:=(F.o.below (i.o.trans (v.o.mono i.o.size))).spot c;simp only[jl,tu,jE]at s;obtain⟨rfl,rfl⟩:=s;rw[cC]at C c1;by_cases t:k<b.length
   case' pos=>
    have p:b[k]?=some f:=by rw[aR t]at c;exact c
    have D:((k:Int)<(b.length:Int)):=oO;have L:decide (b.length<=k)=false:=sU t;go_wp2_with fail;obtain⟨V,M,u,j,l,d,m⟩:=Dx v.o q.o 34 #[.string f.x,.string f.y];obtain⟨N,O⟩:=xq l;obtain⟨P,b1⟩:=xq m;rw[u,j];clear u l m j;obtain⟨X,E,rfl,Q,Y,Z⟩:=(G.o.below (i.o.trans (d.o.mono i.o.size))).spot p;clear p
   case' neg=>
    have R:f=⟨m0,n⟩:=by rw[aX oO]at c;have S:k - b.length=0∨k - b.length=1∨k - b.length=2:=oO;rcases S with h|h|h<;>rw[h]at c<;>exact(aD c).symm
    subst R;have D:¬((k:Int)<(b.length:Int)):=oO;have L:decide ((k:Int)<(b.length:Int))=false:=sU D;go_wp2_with fail;obtain⟨V,M,u,j,l,d,m⟩:=Dx v.o q.o 34 #[.string m0,.string n];obtain⟨N,O⟩:=xq l;obtain⟨P,b1⟩:=xq m;rw[u,j];clear u l m j
   all_goals
    clear c C c1;go_quiet (fail);go_wp2;go_roundw
    case rel=>exact⟨k+1,oO,by go_num,⟨d.o.os,d.o.tape,d.o.output,d.o.size,d.o.block⟩⟩
    case measure=>exact mI
  . have A:k=b.length+3:=oO;subst A;go_wp2;go_ret;exact⟨rfl,i.o.trans (v.o.mono i.o.size)⟩
def Rk(g:Nat)(a:Vx)(cap:Nat)(d:Ap)(m0:Int)(s:Int)(t:Vs)(u:Vs)(v:Vs)(x:Vs)(w:Vz)(hl:eO B6.cells w (some ⟨g,0,none⟩) (d.length+3) (d++ [⟨m0,s,t,u,v,x⟩,⟨m0,s,t,u,v,x⟩,⟨m0,s,t,u,v,x⟩]))(H:eO B6.cells w a cap d)(hn:d.length<=1048576):
 Calls prog 67 #[.slice (some ⟨g,0,none⟩) d.length (d.length+3),.slice a d.length cap,.agg #[.int .i64 m0,.int .i64 s,.string t,.string u,.string v,.string x]] w fun e w'=>e=.returned (.bool true)/\Below w.heap.size w w':=by
 obtain⟨L,M⟩:=Ia hl H;clear hl H;go_enter func67,ntmps67;go_wp2_with fail;obtain⟨W,hW⟩:=nm (w.alloc (.cells #[.int .i64 m0,.int .i64 s,.string t,.string u,.string v,.string x] 72));have n:=Ua hW;have z:=Uc hW;have N:=z.o.lt;rw[hW];clear hW;go_loopw [17] (fun F wr=>∃k:Nat,k<=d.length+3/\F=.int .i64 k/\Below W.heap.size W wr) (fun F _=>d.length+3 - (intOf F).toNat)
 case atStart=>exact⟨0,oO,rfl,ac _ _⟩
 case round=>
  obtain⟨k,hk,rfl,hb⟩:=hrel;have E:=Hi hb;have O:=hb.size;clear hb;by_cases A:k<d.length+3
  .
   obtain⟨f,i⟩:∃f,(d++ [⟨m0,s,t,u,v,x⟩,⟨m0,s,t,u,v,x⟩,⟨m0,s,t,u,v,x⟩])[k]?=some f:=⟨_,gE (sU A)⟩;obtain⟨fb,P,B,Q,I,c1,c2,c3,c4,c5⟩:=(L.o.below (n.o.trans (E.o.mono n.o.size))).bar i;simp only[jl,tu,jE]at B;obtain⟨rfl,rfl⟩:=B;rw[cC]at I c1 c2 c3 c4 c5;by_cases C:k<d.length
   case' pos=>
    have y:d[k]?=some f:=by rw[aR C]at i;exact i
    have J:((k:Int)<(d.length:Int)):=oO;have R:decide (d.length<=k)=false:=sU C;go_wp2_with fail;obtain⟨V,S,D,p,q,j,r⟩:=Dx E.o z.o 72 #[.int .i64 f.a,.int .i64 f.b,.string f.c,.string f.e,.string f.l,.string f.m];obtain⟨T,U,X,Y,Z,e5⟩:=BY q;obtain⟨b0,b1,b2,b3,b4,b5⟩:=BY r;rw[D,p];clear D q r p;obtain⟨ab,K,rfl,aa,a0,a1,a2,a3,a4,a5⟩:=(M.o.below (n.o.trans (j.o.mono n.o.size))).bar y;clear y
   case' neg=>
    have hm:f=⟨m0,s,t,u,v,x⟩:=by rw[aX oO]at i;have h3:k - d.length=0∨k - d.length=1∨k - d.length=2:=oO;rcases h3 with h|h|h<;>rw[h]at i<;>exact(aD i).symm
    subst hm;have J:¬((k:Int)<(d.length:Int)):=oO;have R:decide ((k:Int)<(d.length:Int))=false:=sU J;go_wp2_with fail;obtain⟨V,S,D,p,q,j,r⟩:=Dx E.o z.o 72 #[.int .i64 m0,.int .i64 s,.string t,.string u,.string v,.string x];obtain⟨T,U,X,Y,Z,e5⟩:=BY q;obtain⟨b0,b1,b2,b3,b4,b5⟩:=BY r;rw[D,p];clear D q r p
   all_goals
    clear i I c1 c2 c3 c4 c5;go_quiet (fail);go_wp2;go_roundw
    case rel=>exact⟨k+1,oO,by go_num,⟨j.o.os,j.o.tape,j.o.output,j.o.size,j.o.block⟩⟩
    case measure=>exact mI
  . have G:k=d.length+3:=oO;subst G;go_wp2;go_ret;exact⟨rfl,n.o.trans (E.o.mono n.o.size)⟩
def Rj(g:Nat)(a:Vx)(cap:Nat)(b:Ak)(m0:Int)(p:Int)(r:Vs)(w:Vz)(hl:eO H3.cells w (some ⟨g,0,none⟩) (b.length+3) (b++ [⟨m0,p,r⟩,⟨m0,p,r⟩,⟨m0,p,r⟩]))(C:eO H3.cells w a cap b)(X:b.length<=1048576):
 Calls prog 68 #[.slice (some ⟨g,0,none⟩) b.length (b.length+3),.slice a b.length cap,.agg #[.int .i64 m0,.int .i64 p,.string r]] w fun e w'=>e=.returned (.bool true)/\Below w.heap.size w w':=by
 obtain⟨G,H⟩:=Ia hl C;clear hl C;go_enter func68,ntmps68;go_wp2_with fail;obtain⟨W,hW⟩:=nm (w.alloc (.cells #[.int .i64 m0,.int .i64 p,.string r] 74));have i:=Ua hW;have t:=Uc hW;have I:=t.o.lt;rw[hW];clear hW;go_loopw [17] (fun A wr=>∃k:Nat,k<=b.length+3/\A=.int .i64 k/\Below W.heap.size W wr) (fun A _=>b.length+3 - (intOf A).toNat)
 case atStart=>exact⟨0,oO,rfl,ac _ _⟩
 case round=>
  obtain⟨k,hk,rfl,hb⟩:=hrel;have z:=Hi hb;have J:=hb.size;clear hb;by_cases u:k<b.length+3
  .
   obtain⟨f,c⟩:∃f,(b++ [⟨m0,p,r⟩,⟨m0,p,r⟩,⟨m0,p,r⟩])[k]?=some f:=⟨_,gE (sU u)⟩;obtain⟨Y,K,v,L,D,c1,c2⟩:=(G.o.below (i.o.trans (z.o.mono i.o.size))).sJ c;simp only[jl,tu,jE]at v;obtain⟨rfl,rfl⟩:=v;rw[cC]at D c1 c2;by_cases x:k<b.length
   case' pos=>
    have s:b[k]?=some f:=by rw[aR x]at c;exact c
    have E:((k:Int)<(b.length:Int)):=oO;have M:decide (b.length<=k)=false:=sU x;go_wp2_with fail;obtain⟨V,N,y,l,m,d,n⟩:=Dx z.o t.o 74 #[.int .i64 f.j,.int .i64 f.w,.string f.q];obtain⟨O,P,Q⟩:=lQ m;obtain⟨R,b1,b2⟩:=lQ n;rw[y,l];clear y m n l;obtain⟨Z,F,rfl,S,a0,a1,a2⟩:=(H.o.below (i.o.trans (d.o.mono i.o.size))).sJ s;clear s
   case' neg=>
    have T:f=⟨m0,p,r⟩:=by rw[aX oO]at c;have U:k - b.length=0∨k - b.length=1∨k - b.length=2:=oO;rcases U with h|h|h<;>rw[h]at c<;>exact(aD c).symm
    subst T;have E:¬((k:Int)<(b.length:Int)):=oO;have M:decide ((k:Int)<(b.length:Int))=false:=sU E;go_wp2_with fail;obtain⟨V,N,y,l,m,d,n⟩:=Dx z.o t.o 74 #[.int .i64 m0,.int .i64 p,.string r];obtain⟨O,P,Q⟩:=lQ m;obtain⟨R,b1,b2⟩:=lQ n;rw[y,l];clear y m n l
   all_goals
    clear c D c1 c2;go_quiet (fail);go_wp2;go_roundw
    case rel=>exact⟨k+1,oO,by go_num,⟨d.o.os,d.o.tape,d.o.output,d.o.size,d.o.block⟩⟩
    case measure=>exact mI
  . have B:k=b.length+3:=oO;subst B;go_wp2;go_ret;exact⟨rfl,i.o.trans (z.o.mono i.o.size)⟩
def Ri(g:Nat)(a:Vx)(cap:Nat)(b:AE)(m0:Int)(p:Vs)(q:Vs)(w:Vz)(hl:eO L3.cells w (some ⟨g,0,none⟩) (b.length+3) (b++ [⟨m0,p,q⟩,⟨m0,p,q⟩,⟨m0,p,q⟩]))(D:eO L3.cells w a cap b)(Y:b.length<=1048576):
 Calls prog 24 #[.slice (some ⟨g,0,none⟩) b.length (b.length+3),.slice a b.length cap,.agg #[.int .i64 m0,.string p,.string q]] w fun e w'=>e=.returned (.bool true)/\Below w.heap.size w w':=by
 obtain⟨H,I⟩:=Ia hl D;clear hl D;go_enter func24,ntmps24;go_wp2_with fail;obtain⟨W,hW⟩:=nm (w.alloc (.cells #[.int .i64 m0,.string p,.string q] 36));have i:=Ua hW;have s:=Uc hW;have J:=s.o.lt;rw[hW];clear hW;go_loopw [17] (fun B wr=>∃k:Nat,k<=b.length+3/\B=.int .i64 k/\Below W.heap.size W wr) (fun B _=>b.length+3 - (intOf B).toNat)
 case atStart=>exact⟨0,oO,rfl,ac _ _⟩
 case round=>
  obtain⟨k,hk,rfl,hb⟩:=hrel;have A:=Hi hb;have K:=hb.size;clear hb;by_cases t:k<b.length+3
  .
   obtain⟨f,c⟩:∃f,(b++ [⟨m0,p,q⟩,⟨m0,p,q⟩,⟨m0,p,q⟩])[k]?=some f:=⟨_,gE (sU t)⟩;obtain⟨Z,L,u,M,E,c1,c2⟩:=(H.o.below (i.o.trans (A.o.mono i.o.size))).load c;simp only[jl,tu,jE]at u;obtain⟨rfl,rfl⟩:=u;rw[cC]at E c1 c2;by_cases v:k<b.length
   case' pos=>
    have r:b[k]?=some f:=by rw[aR v]at c;exact c
    have F:((k:Int)<(b.length:Int)):=oO;have N:decide (b.length<=k)=false:=sU v;go_wp2_with fail;obtain⟨V,O,z,l,m,d,n⟩:=Dx A.o s.o 36 #[.int .i64 f.j,.string f.x,.string f.y];obtain⟨P,Q,R⟩:=lQ m;obtain⟨S,b1,b2⟩:=lQ n;rw[z,l];clear z m n l;obtain⟨ab,G,rfl,T,a0,a1,a2⟩:=(I.o.below (i.o.trans (d.o.mono i.o.size))).load r;clear r
   case' neg=>
    have U:f=⟨m0,p,q⟩:=by rw[aX oO]at c;have X:k - b.length=0∨k - b.length=1∨k - b.length=2:=oO;rcases X with h|h|h<;>rw[h]at c<;>exact(aD c).symm
    subst U;have F:¬((k:Int)<(b.length:Int)):=oO;have N:decide ((k:Int)<(b.length:Int))=false:=sU F;go_wp2_with fail;obtain⟨V,O,z,l,m,d,n⟩:=Dx A.o s.o 36 #[.int .i64 m0,.string p,.string q];obtain⟨P,Q,R⟩:=lQ m;obtain⟨S,b1,b2⟩:=lQ n;rw[z,l];clear z m n l
   all_goals
    clear c E c1 c2;go_quiet (fail);go_wp2;go_roundw
    case rel=>exact⟨k+1,oO,by go_num,⟨d.o.os,d.o.tape,d.o.output,d.o.size,d.o.block⟩⟩
    case measure=>exact mI
  . have C:k=b.length+3:=oO;subst C;go_wp2;go_ret;exact⟨rfl,i.o.trans (A.o.mono i.o.size)⟩
def Qe:(prog.info? 32).map (fun i=>(i.zero,i.size,i.bytes))=some (some (.string ⟨#[]⟩),1,16):=kK
def YO(n:Nat)(f:n<=1048576):∃a:Vw,a.size=n+3/\∀w,(Instr.makeSlice 28 (.int .i64 0) (.int .i64 ((n:Int)+3))).run prog w=.ok (.slice (some ⟨w.heap.size,0,none⟩) 0 (n+3)) (w.alloc (.cells a 32)):=by obtain⟨i,b,h⟩:=aZ.1 Qe;simp only[fZ]at h;obtain⟨c,d,hb⟩:=h;refine⟨madeCells (Value.cells (.string ⟨#[]⟩)) ((n+3)*1),by rw[wN];omega,fun w=>?_⟩;have:=qJ w 28 32 i _ underlying28 b c .i64 .i64 0 ((n:Int)+3) oO oO (rO hb) oO;have e:((n:Int)+3).toNat=n+3:=oO;rw[e,d]at this;exact this
def YN(a:Vx)(cap:Nat)(b:Vt)(m:Vs)(w:Vz)(M:eO tc w a cap b)(N:b.length<=1048576):
 Calls prog 7 #[.slice a b.length cap,.string m] w fun e w'=>∃g,w.heap.size<=g/\e=.returned (.slice (some ⟨g,0,none⟩) b.length (b.length+3))/\eO tc w' (some ⟨g,0,none⟩) (b.length+3) (b++ [m,m,m])/\Below w.heap.size w w':=by
 obtain⟨E,q,O⟩:=YO b.length N;obtain⟨i,F,h⟩:=aZ.1 Qe;simp only[fZ]at h;obtain⟨Q,G,hb⟩:=h;have r:=xz (c:=tc) (sz:=1) (fun _=>rfl) b;have s:∀u∈ b.flatMap tc,u.oneCell'=true:=fun u p=>by obtain⟨t,_,p⟩:=mp.1 p;obtain rfl:=bE.1 p;rfl
 obtain⟨W,hW⟩:=nm (w.alloc (.cells E 32));have d:Bl w W:=by rw[<-hW];exact(ac _ _).alloc lZ _
 have f:W.ownsRow w.heap.size 32 1 (.slice (some ⟨w.heap.size,0,none⟩) 0 (b.length+3)) 0 []:=by rw[<-hW];exact oU w E (b.length+3) lZ mZ (rO q)
 obtain⟨w1,v,x,k⟩:=Of (P:=prog) (cap:=cap) underlying28 F G dD f (M.row.below d) r s oO 28;have l:=FT d k d.size lZ;have H:w.heap.size<w1.heap.size:=by have:=k.size;rw[<-hW]at this;simp at this;omega
 obtain⟨X,y⟩:=nm (w1.alloc (.cells #[.string m,.string m,.string m] 32));have n:Bl w X:=by rw[<-y];exact l.alloc l.size _
 have z:SB X w1.heap.size 32 #[.string m,.string m,.string m]:=by rw[<-y];exact cK w1 _ _
 obtain⟨w2,A,B,C⟩:=Fj (P:=prog) X w.heap.size 28 28 32 i 1 underlying28 F G w.heap.size b.length (b.length+3) (b.flatMap tc) (by rw[<-y];exact x.alloc _) ⟨w1.heap.size,0,none⟩ 3 3 [.string m,.string m,.string m] rfl (fun j u R=>by
  rw[LO,cC,z.cell]
  simpa using R) (fun u p=>by simp at p;subst p;rfl) lZ
 have D:=FT n C n.size lZ;have I:sQ prog 28 28 (.slice (some ⟨w.heap.size,0,none⟩) 0 (b.length+3)) (.slice a b.length cap) (w.alloc (.cells E 32))=.ok (.slice (some ⟨w.heap.size,0,none⟩) b.length (b.length+3)) w1:=by rw[hW];exact v
 have J:sQ prog 28 28 (.slice (some ⟨w.heap.size,0,none⟩) b.length (b.length+3)) (.slice (some ⟨w1.heap.size,0,none⟩) 3 3) (w1.alloc (.cells #[.string m,.string m,.string m] 32))=.ok (.slice (some ⟨w.heap.size,0,none⟩) (b.length+3) (b.length+3)) w2:=by rw[y];exact A
 obtain⟨K,L⟩:=Ia B D;clear q F Q G hb r s hW d f v x k l y n z A B C D M H;go_enter func7,ntmps7;go_wp2;go_ret;refine⟨_,aV _,rfl,⟨sS,?_⟩,L.o⟩;rw[jw];exact GL K.o
def YM(g:Nat)(a:Vx)(cap:Nat)(b:Vt)(m:Vs)(w:Vz)(hl:eO tc w (some ⟨g,0,none⟩) (b.length+3) (b++ [m,m,m]))(q:eO tc w a cap b)(D:b.length<=1048576):
 Calls prog 25 #[.slice (some ⟨g,0,none⟩) b.length (b.length+3),.slice a b.length cap,.string m] w fun e w'=>e=.returned (.bool true)/\Below w.heap.size w w':=by
 obtain⟨t,u⟩:=Ia hl q;clear hl q;go_enter func25,ntmps25;go_wp2_with fail;go_loopw [17] (fun p wr=>∃k:Nat,k<=b.length+3/\p=.int .i64 k/\Below w.heap.size w wr) (fun p _=>b.length+3 - (intOf p).toNat)
 case atStart=>exact⟨0,oO,rfl,ac _ _⟩
 case round=>
  obtain⟨k,hk,rfl,hb⟩:=hrel;have i:=Hi hb;clear hb;by_cases j:k<b.length+3
  .
   obtain⟨f,c⟩:∃f,(b++ [m,m,m])[k]?=some f:=⟨_,gE (sU j)⟩;obtain⟨E,v,l,x,y⟩:=(t.o.below i.o).uw c;simp only[jl,tu,jE]at l;obtain⟨rfl,rfl⟩:=l;rw[cC]at y;by_cases n:k<b.length
   . have d:b[k]?=some f:=by rw[aR n]at c;exact c
     obtain⟨F,r,rfl,z,d0⟩:=(u.o.below i.o).uw d;have s:((k:Int)<(b.length:Int)):=oO;have A:decide (b.length<=k)=false:=sU n;clear c d;go_wp2;go_roundw
     case rel=>exact⟨k+1,oO,by go_num,i.o⟩
     case measure=>exact mI
   . have B:f=m:=by rw[aX oO]at c;have C:k - b.length=0∨k - b.length=1∨k - b.length=2:=oO;rcases C with h|h|h<;>rw[h]at c<;>exact(aD c).symm
     subst B;have s:¬((k:Int)<(b.length:Int)):=oO;have A:decide ((k:Int)<(b.length:Int))=false:=sU s;have G:decide (b.length<=k)=true:=sO;clear c;go_wp2;go_roundw
     case rel=>exact⟨k+1,oO,by go_num,i.o⟩
     case measure=>exact mI
  . obtain rfl:k=b.length+3:=oO;go_wp2;go_ret;exact⟨rfl,i.o⟩
end Go.Proofs.YtfgclhpgdanmfaaGreatDoor
