import Derived.Test.YtppkmifkpjkgpaaGreatDoorC31OrdersP
namespace Go.Proofs.YtppkmifkpjkgpaaGreatDoor
open Go.RowKit
open Go.Proofs.Tryz
set_option linter.unusedSimpArgs false
set_option linter.unusedVariables false
set_option maxHeartbeats 8000000
set_option maxRecDepth 1000000
theorem Qg5{P:Program}{l:Func}{p u:Tmp}{ty:Vr}(h:l.results=#[.cell p ty,.cell u ty])(a:Vw)(w:Vz)(g e:Nat)(t:Vr)(f b:Vw)(m c:Nat × Nat)(d:TypeDesc)
 (q:a.getD p undef=.pointer (some ⟨g,0,none⟩)) (r:w.heap[g]?=some (.cells f t m)) (i:a.getD u undef=.pointer (some ⟨e,0,none⟩)) (j:w.heap[e]?=some (.cells b t c))
 (n:P.underlying ty=some d) (o:(match d with| .struct _| .array _ _=>true|_=>false)=true) (s:(P.info? ty).map (·.size)=some f.size) (k:(P.info? ty).map (·.size)=some b.size):
 (results l a).run P w=.ok (.tuple #[.agg f,.agg b]) w:=by
 have v:a[p]?.getD undef=.pointer (some ⟨g,0,none⟩):=by simpa using q
 have x:a[u]?.getD undef=.pointer (some ⟨e,0,none⟩):=by simpa using i
 simp[results,h,v,x,asAddr,run_loadVar_row w g t ty f m d r n o s,run_loadVar_row w e t ty b c d j n o k]
def WaySays(w:Vz)(k:Nat)(qx qy:Rat)(e:Ending)(w':Vz):Prop:=∃x1 x2 x3 y1 y2 y3,e=.returned (.tuple #[.agg #[x1,x2,x3],.agg #[y1,y2,y3]])/\FBag w w' [⟨y1,y2,y3,qy,k⟩,⟨x1,x2,x3,qx,k⟩]
theorem Qan(w:Vz)(o:Obj)(t:Vr)(C:Vw):SB ((w.alloc o).alloc (.cells C t)) (w.heap.size+1) t C:=by
 have h:=SB.new (w.alloc o) t C;rw[World.size_alloc] at h;exact h
theorem Qb7{w:Vz}{x y z:Value}{q:Rat}(h:FracV w (.agg #[x,y,z]) q):∃neg a n c b m d,x=.bool neg/\y=.slice a n c/\z=.slice b m d:=by
 obtain⟨neg,a,n,c,b,m,d,e,_⟩:=h;simp at e;exact⟨neg,a,n,c,b,m,d,e.1,e.2.1,e.2.2⟩
theorem Qg6:NoU64 #[.bool false,.slice none 0 0,.slice none 0 0]:=Qib (by simp)
theorem Qg7{w u:Vz}{g a:Nat}{L:List FE}{x1 x2 x3 y1 y2 y3:Value}(h:FBag w u L)(d:w.heap.size<=g)(c:w.heap.size<=a)(b:g≠a)(s:SB u g 141 #[.bool false,.slice none 0 0,.slice none 0 0])(e:SB u a 141 #[.bool false,.slice none 0 0,.slice none 0 0]):
 FBag w ((((((u.setCell ⟨g,0,none⟩ x1).setCell ⟨g,1,none⟩ x2).setCell ⟨g,2,none⟩ x3).setCell ⟨a,0,none⟩ y1).setCell ⟨a,1,none⟩ y2).setCell ⟨a,2,none⟩ y3) L/\SB ((((((u.setCell ⟨g,0,none⟩ x1).setCell ⟨g,1,none⟩ x2).setCell ⟨g,2,none⟩ x3).setCell ⟨a,0,none⟩ y1).setCell ⟨a,1,none⟩ y2).setCell ⟨a,2,none⟩ y3) g 141 #[x1,x2,x3]/\SB ((((((u.setCell ⟨g,0,none⟩ x1).setCell ⟨g,1,none⟩ x2).setCell ⟨g,2,none⟩ x3).setCell ⟨a,0,none⟩ y1).setCell ⟨a,1,none⟩ y2).setCell ⟨a,2,none⟩ y3) a 141 #[y1,y2,y3]:=by
 have f:=h.only ((((Only.refl g u).setCell 0 x1).setCell 1 x2).setCell 2 x3) s Qg6 d;have t1:=((s.set 0 x1).set 1 x2).set 2 x3;have t2:=((e.other b.symm 0 x1).other b.symm 1 x2).other b.symm 2 x3;have i:=f.only ((((Only.refl a _).setCell 0 y1).setCell 1 y2).setCell 2 y3) t2 Qg6 c;refine⟨i,?_,?_⟩
 . have:=((t1.other b 0 y1).other b 1 y2).other b 2 y3
   simpa using this
 . have:=((t2.set 0 y1).set 1 y2).set 2 y3
   simpa using this
theorem Qlu(a1 a2 a3:Vx)(c1 c2 c3 nb nh A B n:Nat)(T:List S2)(b:B6)(s t:S2)(w:Vz)(hg:Glob w)(hj:ARow S2.cells w a1 c1 T)(hA:b.a=(A:Nat))(hB:b.b=(B:Nat))(hs:T[A]?=some s)(ht:T[B]?=some t)
 (hl:T.length<=10) (z1:s.x.size<=n) (z2:s.y.size<=n) (z3:t.x.size<=n) (z4:t.y.size<=n) (hn:n<=1073741824) {x1 y1 x2 y2:Rat} (q1:QOf s.x.data.toList x1) (q2:QOf s.y.data.toList y1) (q3:QOf t.x.data.toList x2) (q4:QOf t.y.data.toList y2):
 Calls prog 78 #[.agg #[.slice a1 T.length c1,.slice a2 nb c2,.slice a3 nh c3],.agg #[.int .i64 b.a,.int .i64 b.b,.string b.c,.string b.e,.string b.l,.string b.m]] w (WaySays w (4*n+1+(4*n+1)+1) (x2 - x1) (y2 - y1)):=by
 obtain⟨HG,HJ⟩:=Ia hg hj;have bl:=(gZ hs).1;have bm:=(gZ ht).1;obtain⟨HS,HT⟩:=Ia hs ht;rw[hA,hB];obtain⟨K,HQ⟩:=Ia (⟨z1,z2,z3,z4,hn⟩:s.x.size<=n/\s.y.size<=n/\t.x.size<=n/\t.y.size<=n/\n<=1073741824) (⟨q1,q2,q3,q4⟩:QOf s.x.data.toList x1/\QOf s.y.data.toList y1/\QOf t.x.data.toList x2/\QOf t.y.data.toList y2);have iA:((A:Int)<(T.length:Int)):=by omega
 have iB:((B:Int)<(T.length:Int)):=by omega
 clear hg hj hs ht z1 z2 z3 z4 hn q1 q2 q3 q4 hA hB;go_enter func78,ntmps78;obtain⟨u,R⟩:=nm w.heap.size;obtain⟨V,hV⟩:=nm ((((w.alloc (.cells #[.slice a1 T.length c1,.slice a2 nb c2,.slice a3 nh c3] 26)).alloc (.cells #[.int .i64 (A:Nat),.int .i64 (B:Nat),.string b.c,.string b.e,.string b.l,.string b.m] 80)).alloc (.cells #[.bool false,.slice none 0 0,.slice none 0 0] 141)).alloc (.cells #[.bool false,.slice none 0 0,.slice none 0 0] 141));have aq:Below w.heap.size w V:=by
  rw[<-hV];exact(((bR.alloc lZ _).alloc (by simp) _).alloc (by simp;omega) _).alloc (by simp;omega) _
 have aw:V.heap.size=u+4:=by rw[<-hV,<-R];simp
 have s1:SB V u 26 #[.slice a1 T.length c1,.slice a2 nb c2,.slice a3 nh c3]:=by
  rw[<-hV,<-R];exact(((SB.new w _ _).alloc _).alloc _).alloc _
 have s2:SB V (u+1) 80 #[.int .i64 (A:Nat),.int .i64 (B:Nat),.string b.c,.string b.e,.string b.l,.string b.m]:=by
  have h:=SB.new (w.alloc (.cells #[.slice a1 T.length c1,.slice a2 nb c2,.slice a3 nh c3] 26)) 80 #[.int .i64 (A:Nat),.int .i64 (B:Nat),.string b.c,.string b.e,.string b.l,.string b.m];rw[World.size_alloc,R] at h;rw[<-hV];exact(h.alloc _).alloc _
 have s3:SB V (u+2) 141 #[.bool false,.slice none 0 0,.slice none 0 0]:=by
  have h:=SB.new ((w.alloc (.cells #[.slice a1 T.length c1,.slice a2 nb c2,.slice a3 nh c3] 26)).alloc (.cells #[.int .i64 (A:Nat),.int .i64 (B:Nat),.string b.c,.string b.e,.string b.l,.string b.m] 80)) 141 #[.bool false,.slice none 0 0,.slice none 0 0];rw[World.size_alloc,World.size_alloc,R] at h;rw[<-hV];exact h.alloc _
 have s4:SB V (u+3) 141 #[.bool false,.slice none 0 0,.slice none 0 0]:=by
  have h:=SB.new (((w.alloc (.cells #[.slice a1 T.length c1,.slice a2 nb c2,.slice a3 nh c3] 26)).alloc (.cells #[.int .i64 (A:Nat),.int .i64 (B:Nat),.string b.c,.string b.e,.string b.l,.string b.m] 80)).alloc (.cells #[.bool false,.slice none 0 0,.slice none 0 0] 141)) 141 #[.bool false,.slice none 0 0,.slice none 0 0];rw[World.size_alloc,World.size_alloc,World.size_alloc,R] at h;rw[<-hV];exact h
 obtain⟨jb,jo,rfl,bn,u0,u1⟩:=(HJ.o.below aq).spot HS.o;obtain⟨bo,bp,e',_,u2,u3⟩:=(HJ.o.below aq).spot HT.o;cases e';have f0:=s1.cell 0;have f1:=s2.cell 0;have f2:=s2.cell 1;simp at f0 f1 f2;obtain⟨ar,HV,Y,a4,au,av⟩:=Ie aq hV R aw s3 s4;clear aq aw s1 s2 s3 s4 hV R;go_wp2_with fail;simp only[Y.o];rw[HV.o];go_region_held3 (fun v=>v.cell? ⟨u,0,none⟩=some (.slice (some ⟨jb,jo,none⟩) T.length c1)/\v.cell? ⟨u+1,0,none⟩=some (.int .i64 (A:Nat))/\v.cell? ⟨u+1,1,none⟩=some (.int .i64 (B:Nat))/\v.cell? ⟨jb,jo+A*2,none⟩=some (.string s.x)/\v.cell? ⟨jb,jo+A*2+1,none⟩=some (.string s.y)/\v.cell? ⟨jb,jo+B*2,none⟩=some (.string t.x)/\v.cell? ⟨jb,jo+B*2+1,none⟩=some (.string t.y)) ((first|(simp [*];done)|go_keep)) (fail)
 .
  obtain⟨X,Z⟩:=nm (((V.alloc (.cells #[.string s.x,.string s.y] 56)).alloc (.cells #[.string t.x,.string t.y] 56)).drew);have N:Below V.heap.size V X:=by rw[<-Z];exact((bR.alloc lZ _).alloc (by simp) _).drew
  have P:SB X (V.heap.size) 56 #[.string s.x,.string s.y]:=by rw[<-Z];exact((SB.new V _ _).alloc _)
  have Q:SB X (V.heap.size+1) 56 #[.string t.x,.string t.y]:=by rw[<-Z];exact Qan V _ _ _
  obtain⟨d,g⟩:=Ia P Q;have aa:O (Below w.heap.size w X):=Hi (ar.o.trans (N.mono ar.o.size));have S:O (FBag X X []):=Hi (FBag.start (HG.o.below aa.o));obtain⟨j,i⟩:=Ia (au.o.below N au.o.lt) (av.o.below N av.o.lt);have z:=P.cell 0;have C:=P.cell 1;have D:=Q.cell 0;have E:=Q.cell 1;simp at z C D E;clear N P Q f0 f1 f2 u0 u1 u2 u3;have ax:=Hi Z;clear Z;have hz:=a4.o;have n1:V.heap.size≠u+1+1:=by omega
  have n2:V.heap.size≠u+1+1+1:=by omega
  have n3:V.heap.size+1≠u+1+1:=by omega
  have n4:V.heap.size+1≠u+1+1+1:=by omega
  have n5:=n1.symm;have n6:=n2.symm;have n7:=n3.symm;have n8:=n4.symm;have n9:V.heap.size≠u+1:=by omega
  have ay:=n9.symm;clear hz;rw[ax.o];go_wp2_with fail;go_region_held3 (fun v=>v.cell? ⟨V.heap.size,0,none⟩=some (.string s.x)/\v.cell? ⟨V.heap.size,1,none⟩=some (.string s.y)/\v.cell? ⟨V.heap.size+1,0,none⟩=some (.string t.x)/\v.cell? ⟨V.heap.size+1,1,none⟩=some (.string t.y)) ((first|(simp [*];done)|go_keep)) (first
   |
    (go_at_call_of 82 (Value.string t.x)
     apply cM;apply FBag.of (w0:=X) (L:=[]) (n:=n) t.x;(first|exact S.o|exact S.o.drew);exact K.o.2.2.1;exact K.o.2.2.2.2;rintro e v1 ⟨q,J,az,a5,a6,rfl,r⟩;rw[J.inj HQ.o.2.2.1] at r;have F:=Hi r;clear J r S z C D E;have z:=(d.o.below F.o.base d.o.lt).cell 0;have C:=(d.o.below F.o.base d.o.lt).cell 1;have D:=(g.o.below F.o.base g.o.lt).cell 0;have E:=(g.o.below F.o.base g.o.lt).cell 1;simp at z C D E
     skip)
   |
    (go_at_call_of 82 (Value.string s.x)
     apply cM;apply FBag.of (w0:=X) (L:=_) (n:=n) s.x;(first|exact F.o|exact F.o.drew);exact K.o.1;exact K.o.2.2.2.2;rintro e v2 ⟨q,J,a7,a8,a9,rfl,r⟩;rw[J.inj HQ.o.1] at r;have G:=Hi r;clear J r F z C D E;have z:=(d.o.below G.o.base d.o.lt).cell 0;have C:=(d.o.below G.o.base d.o.lt).cell 1;have D:=(g.o.below G.o.base g.o.lt).cell 0;have E:=(g.o.below G.o.base g.o.lt).cell 1;simp at z C D E
     skip)
   |
    (go_at_call_of 101 az
     apply cM;(first|(apply FBag.minus G.o)|(apply FBag.minus G.o.drew));(focus(repeat(first|exact mH|apply mT)));(focus(repeat(first|exact mH|apply mT)))
     (have:=K.o.2.2.2.2;omega)
     rintro e U ⟨ba,bb,bc,rfl,r⟩;obtain⟨ab,ad,ae,af,ag,ah,ai,rfl,rfl,rfl⟩:=Qb7 (r.get (List.Mem.head _)).1;have k:=Hi r;clear r G z C D E;have z:=(d.o.below k.o.base d.o.lt).cell 0;have C:=(d.o.below k.o.base d.o.lt).cell 1;have D:=(g.o.below k.o.base g.o.lt).cell 0;have E:=(g.o.below k.o.base g.o.lt).cell 1;simp at z C D E;(try clear p0 p1 p2 p3 p4 p5 r0 r1 r2 r3 r4 r5);obtain⟨p0,p1,p2,-⟩:=zc (j.o.below k.o.base j.o.lt);obtain⟨p3,-⟩:=zc (i.o.below k.o.base i.o.lt)
     obtain⟨-,p4,p5,-⟩:=zc (i.o.below k.o.base i.o.lt);have r0:U.frozen? ⟨u+1+1,0,none⟩=false:=(j.o.below k.o.base j.o.lt).free 0;have r1:U.frozen? ⟨u+1+1,1,none⟩=false:=(j.o.below k.o.base j.o.lt).free 1;have r2:U.frozen? ⟨u+1+1,2,none⟩=false:=(j.o.below k.o.base j.o.lt).free 2;have r3:U.frozen? ⟨u+1+1+1,0,none⟩=false:=(i.o.below k.o.base i.o.lt).free 0;have r4:U.frozen? ⟨u+1+1+1,1,none⟩=false:=(i.o.below k.o.base i.o.lt).free 1;have r5:U.frozen? ⟨u+1+1+1,2,none⟩=false:=(i.o.below k.o.base i.o.lt).free 2
     skip)
   |
    (go_at_call_of 82 (Value.string t.y)
     apply cM;apply FBag.of (w0:=X) (L:=_) (n:=n) t.y;(first|exact k.o|exact k.o.drew);exact K.o.2.2.2.1;exact K.o.2.2.2.2;rintro e v4 ⟨q,J,a0,bd,be,rfl,r⟩;rw[J.inj HQ.o.2.2.2] at r;have H:=Hi r;clear J r k z C D E;have z:=(d.o.below H.o.base d.o.lt).cell 0;have C:=(d.o.below H.o.base d.o.lt).cell 1;have D:=(g.o.below H.o.base g.o.lt).cell 0;have E:=(g.o.below H.o.base g.o.lt).cell 1;simp at z C D E
     skip)
   |
    (go_at_call_of 82 (Value.string s.y)
     apply cM;apply FBag.of (w0:=X) (L:=_) (n:=n) s.y;(first|exact H.o|exact H.o.drew);exact K.o.2.1;exact K.o.2.2.2.2;rintro e v5 ⟨q,J,bf,bg,bh,rfl,r⟩;rw[J.inj HQ.o.2.1] at r;have I:=Hi r;clear J r H z C D E;have z:=(d.o.below I.o.base d.o.lt).cell 0;have C:=(d.o.below I.o.base d.o.lt).cell 1;have D:=(g.o.below I.o.base g.o.lt).cell 0;have E:=(g.o.below I.o.base g.o.lt).cell 1;simp at z C D E
     skip)
   |
    (go_at_call_of 101 a0
     apply cM;(first|(apply FBag.minus I.o)|(apply FBag.minus I.o.drew));(focus(repeat(first|exact mH|apply mT)));(focus(repeat(first|exact mH|apply mT)))
     (have:=K.o.2.2.2.2;omega)
     rintro e W ⟨bi,bj,bk,rfl,r⟩;obtain⟨aj,ak,al,am,an,ao,ap,rfl,rfl,rfl⟩:=Qb7 (r.get (List.Mem.head _)).1;have p:=Hi r;clear r I z C D E;have z:=(d.o.below p.o.base d.o.lt).cell 0;have C:=(d.o.below p.o.base d.o.lt).cell 1;have D:=(g.o.below p.o.base g.o.lt).cell 0;have E:=(g.o.below p.o.base g.o.lt).cell 1;simp at z C D E;(try clear p0 p1 p2 p3 p4 p5 r0 r1 r2 r3 r4 r5);obtain⟨p0,p1,p2,-⟩:=zc (j.o.below p.o.base j.o.lt);obtain⟨p3,-⟩:=zc (i.o.below p.o.base i.o.lt)
     obtain⟨-,p4,p5,-⟩:=zc (i.o.below p.o.base i.o.lt);have r0:W.frozen? ⟨u+1+1,0,none⟩=false:=(j.o.below p.o.base j.o.lt).free 0;have r1:W.frozen? ⟨u+1+1,1,none⟩=false:=(j.o.below p.o.base j.o.lt).free 1;have r2:W.frozen? ⟨u+1+1,2,none⟩=false:=(j.o.below p.o.base j.o.lt).free 2;have r3:W.frozen? ⟨u+1+1+1,0,none⟩=false:=(i.o.below p.o.base i.o.lt).free 0;have r4:W.frozen? ⟨u+1+1+1,1,none⟩=false:=(i.o.below p.o.base i.o.lt).free 1;have r5:W.frozen? ⟨u+1+1+1,2,none⟩=false:=(i.o.below p.o.base i.o.lt).free 2
     skip)
   |fail)
  all_goals
   have HW:=Hi (Qg7 (x1:=.bool ab) (x2:=.slice ad ae af) (x3:=.slice ag ah ai) (y1:=.bool aj) (y2:=.slice ak al am) (y3:=.slice an ao ap) (p.o.from aa.o HG.o (M:=[⟨.bool aj,.slice ak al am,.slice an ao ap,y2 - y1,4*n+1+(4*n+1)+1⟩,⟨.bool ab,.slice ad ae af,.slice ag ah ai,x2 - x1,4*n+1+(4*n+1)+1⟩]) (fun f r=>by
    simp only[List.mem_cons,List.not_mem_nil,or_false] at r;rcases r with rfl|rfl
    . exact⟨_,List.Mem.head _,Nat.le_refl _⟩
    . exact⟨_,List.Mem.tail _ (List.Mem.tail _ (List.Mem.tail _ (List.Mem.head _))),Nat.le_refl _⟩)) (by have:=Y.o;omega) (by have:=Y.o;omega) (by omega) (j.o.below p.o.base j.o.lt) (i.o.below p.o.base i.o.lt))
   clear z C D E p0 p1 p2 p3 p4 p5 r0 r1 r2 r3 r4 r5 n1 n2 n3 n4 n5 n6 n7 n8 n9 ay;go_wp2;refine bodyPost_ret (v:=.tuple #[_,_]) (Qg5 rfl _ _ (u+2) (u+3) 141 _ _ (0,0) (0,0) _ rfl HW.o.2.1 rfl HW.o.2.2 underlying141 rfl Tryz.fracInfo Tryz.fracInfo) rfl ?_;exact⟨_,_,_,_,_,_,rfl,HW.o.1⟩
 .
  obtain⟨X,Z⟩:=nm (((V.alloc (.cells #[.string t.x,.string t.y] 56)).alloc (.cells #[.string s.x,.string s.y] 56)).drew);have N:Below V.heap.size V X:=by rw[<-Z];exact((bR.alloc lZ _).alloc (by simp) _).drew
  have P:SB X (V.heap.size+1) 56 #[.string s.x,.string s.y]:=by rw[<-Z];exact Qan V _ _ _
  have Q:SB X (V.heap.size) 56 #[.string t.x,.string t.y]:=by rw[<-Z];exact((SB.new V _ _).alloc _)
  obtain⟨d,g⟩:=Ia P Q;have aa:O (Below w.heap.size w X):=Hi (ar.o.trans (N.mono ar.o.size));have S:O (FBag X X []):=Hi (FBag.start (HG.o.below aa.o));obtain⟨j,i⟩:=Ia (au.o.below N au.o.lt) (av.o.below N av.o.lt);have z:=P.cell 0;have C:=P.cell 1;have D:=Q.cell 0;have E:=Q.cell 1;simp at z C D E;clear N P Q f0 f1 f2 u0 u1 u2 u3;have ax:=Hi Z;clear Z;have hz:=a4.o;have n1:V.heap.size≠u+1+1:=by omega
  have n2:V.heap.size≠u+1+1+1:=by omega
  have n3:V.heap.size+1≠u+1+1:=by omega
  have n4:V.heap.size+1≠u+1+1+1:=by omega
  have n5:=n1.symm;have n6:=n2.symm;have n7:=n3.symm;have n8:=n4.symm;have n9:V.heap.size≠u+1:=by omega
  have ay:=n9.symm;clear hz;rw[ax.o];go_wp2_with fail;go_region_held3 (fun v=>v.cell? ⟨V.heap.size+1,0,none⟩=some (.string s.x)/\v.cell? ⟨V.heap.size+1,1,none⟩=some (.string s.y)/\v.cell? ⟨V.heap.size,0,none⟩=some (.string t.x)/\v.cell? ⟨V.heap.size,1,none⟩=some (.string t.y)) ((first|(simp [*];done)|go_keep)) (first
   |
    (go_at_call_of 82 (Value.string t.x)
     apply cM;apply FBag.of (w0:=X) (L:=[]) (n:=n) t.x;(first|exact S.o|exact S.o.drew);exact K.o.2.2.1;exact K.o.2.2.2.2;rintro e v1 ⟨q,J,az,a5,a6,rfl,r⟩;rw[J.inj HQ.o.2.2.1] at r;have F:=Hi r;clear J r S z C D E;have z:=(d.o.below F.o.base d.o.lt).cell 0;have C:=(d.o.below F.o.base d.o.lt).cell 1;have D:=(g.o.below F.o.base g.o.lt).cell 0;have E:=(g.o.below F.o.base g.o.lt).cell 1;simp at z C D E
     skip)
   |
    (go_at_call_of 82 (Value.string s.x)
     apply cM;apply FBag.of (w0:=X) (L:=_) (n:=n) s.x;(first|exact F.o|exact F.o.drew);exact K.o.1;exact K.o.2.2.2.2;rintro e v2 ⟨q,J,a7,a8,a9,rfl,r⟩;rw[J.inj HQ.o.1] at r;have G:=Hi r;clear J r F z C D E;have z:=(d.o.below G.o.base d.o.lt).cell 0;have C:=(d.o.below G.o.base d.o.lt).cell 1;have D:=(g.o.below G.o.base g.o.lt).cell 0;have E:=(g.o.below G.o.base g.o.lt).cell 1;simp at z C D E
     skip)
   |
    (go_at_call_of 101 az
     apply cM;(first|(apply FBag.minus G.o)|(apply FBag.minus G.o.drew));(focus(repeat(first|exact mH|apply mT)));(focus(repeat(first|exact mH|apply mT)))
     (have:=K.o.2.2.2.2;omega)
     rintro e U ⟨ba,bb,bc,rfl,r⟩;obtain⟨ab,ad,ae,af,ag,ah,ai,rfl,rfl,rfl⟩:=Qb7 (r.get (List.Mem.head _)).1;have k:=Hi r;clear r G z C D E;have z:=(d.o.below k.o.base d.o.lt).cell 0;have C:=(d.o.below k.o.base d.o.lt).cell 1;have D:=(g.o.below k.o.base g.o.lt).cell 0;have E:=(g.o.below k.o.base g.o.lt).cell 1;simp at z C D E;(try clear p0 p1 p2 p3 p4 p5 r0 r1 r2 r3 r4 r5);obtain⟨p0,p1,p2,-⟩:=zc (j.o.below k.o.base j.o.lt);obtain⟨p3,-⟩:=zc (i.o.below k.o.base i.o.lt)
     obtain⟨-,p4,p5,-⟩:=zc (i.o.below k.o.base i.o.lt);have r0:U.frozen? ⟨u+1+1,0,none⟩=false:=(j.o.below k.o.base j.o.lt).free 0;have r1:U.frozen? ⟨u+1+1,1,none⟩=false:=(j.o.below k.o.base j.o.lt).free 1;have r2:U.frozen? ⟨u+1+1,2,none⟩=false:=(j.o.below k.o.base j.o.lt).free 2;have r3:U.frozen? ⟨u+1+1+1,0,none⟩=false:=(i.o.below k.o.base i.o.lt).free 0;have r4:U.frozen? ⟨u+1+1+1,1,none⟩=false:=(i.o.below k.o.base i.o.lt).free 1;have r5:U.frozen? ⟨u+1+1+1,2,none⟩=false:=(i.o.below k.o.base i.o.lt).free 2
     skip)
   |
    (go_at_call_of 82 (Value.string t.y)
     apply cM;apply FBag.of (w0:=X) (L:=_) (n:=n) t.y;(first|exact k.o|exact k.o.drew);exact K.o.2.2.2.1;exact K.o.2.2.2.2;rintro e v4 ⟨q,J,a0,bd,be,rfl,r⟩;rw[J.inj HQ.o.2.2.2] at r;have H:=Hi r;clear J r k z C D E;have z:=(d.o.below H.o.base d.o.lt).cell 0;have C:=(d.o.below H.o.base d.o.lt).cell 1;have D:=(g.o.below H.o.base g.o.lt).cell 0;have E:=(g.o.below H.o.base g.o.lt).cell 1;simp at z C D E
     skip)
   |
    (go_at_call_of 82 (Value.string s.y)
     apply cM;apply FBag.of (w0:=X) (L:=_) (n:=n) s.y;(first|exact H.o|exact H.o.drew);exact K.o.2.1;exact K.o.2.2.2.2;rintro e v5 ⟨q,J,bf,bg,bh,rfl,r⟩;rw[J.inj HQ.o.2.1] at r;have I:=Hi r;clear J r H z C D E;have z:=(d.o.below I.o.base d.o.lt).cell 0;have C:=(d.o.below I.o.base d.o.lt).cell 1;have D:=(g.o.below I.o.base g.o.lt).cell 0;have E:=(g.o.below I.o.base g.o.lt).cell 1;simp at z C D E
     skip)
   |
    (go_at_call_of 101 a0
     apply cM;(first|(apply FBag.minus I.o)|(apply FBag.minus I.o.drew));(focus(repeat(first|exact mH|apply mT)));(focus(repeat(first|exact mH|apply mT)))
     (have:=K.o.2.2.2.2;omega)
     rintro e W ⟨bi,bj,bk,rfl,r⟩;obtain⟨aj,ak,al,am,an,ao,ap,rfl,rfl,rfl⟩:=Qb7 (r.get (List.Mem.head _)).1;have p:=Hi r;clear r I z C D E;have z:=(d.o.below p.o.base d.o.lt).cell 0;have C:=(d.o.below p.o.base d.o.lt).cell 1;have D:=(g.o.below p.o.base g.o.lt).cell 0;have E:=(g.o.below p.o.base g.o.lt).cell 1;simp at z C D E;(try clear p0 p1 p2 p3 p4 p5 r0 r1 r2 r3 r4 r5);obtain⟨p0,p1,p2,-⟩:=zc (j.o.below p.o.base j.o.lt);obtain⟨p3,-⟩:=zc (i.o.below p.o.base i.o.lt)
     obtain⟨-,p4,p5,-⟩:=zc (i.o.below p.o.base i.o.lt);have r0:W.frozen? ⟨u+1+1,0,none⟩=false:=(j.o.below p.o.base j.o.lt).free 0;have r1:W.frozen? ⟨u+1+1,1,none⟩=false:=(j.o.below p.o.base j.o.lt).free 1;have r2:W.frozen? ⟨u+1+1,2,none⟩=false:=(j.o.below p.o.base j.o.lt).free 2;have r3:W.frozen? ⟨u+1+1+1,0,none⟩=false:=(i.o.below p.o.base i.o.lt).free 0;have r4:W.frozen? ⟨u+1+1+1,1,none⟩=false:=(i.o.below p.o.base i.o.lt).free 1;have r5:W.frozen? ⟨u+1+1+1,2,none⟩=false:=(i.o.below p.o.base i.o.lt).free 2
     skip)
   |fail)
  all_goals
   have HW:=Hi (Qg7 (x1:=.bool ab) (x2:=.slice ad ae af) (x3:=.slice ag ah ai) (y1:=.bool aj) (y2:=.slice ak al am) (y3:=.slice an ao ap) (p.o.from aa.o HG.o (M:=[⟨.bool aj,.slice ak al am,.slice an ao ap,y2 - y1,4*n+1+(4*n+1)+1⟩,⟨.bool ab,.slice ad ae af,.slice ag ah ai,x2 - x1,4*n+1+(4*n+1)+1⟩]) (fun f r=>by
    simp only[List.mem_cons,List.not_mem_nil,or_false] at r;rcases r with rfl|rfl
    . exact⟨_,List.Mem.head _,Nat.le_refl _⟩
    . exact⟨_,List.Mem.tail _ (List.Mem.tail _ (List.Mem.tail _ (List.Mem.head _))),Nat.le_refl _⟩)) (by have:=Y.o;omega) (by have:=Y.o;omega) (by omega) (j.o.below p.o.base j.o.lt) (i.o.below p.o.base i.o.lt))
   clear z C D E p0 p1 p2 p3 p4 p5 r0 r1 r2 r3 r4 r5 n1 n2 n3 n4 n5 n6 n7 n8 n9 ay;go_wp2;refine bodyPost_ret (v:=.tuple #[_,_]) (Qg5 rfl _ _ (u+2) (u+3) 141 _ _ (0,0) (0,0) _ rfl HW.o.2.1 rfl HW.o.2.2 underlying141 rfl Tryz.fracInfo Tryz.fracInfo) rfl ?_;exact⟨_,_,_,_,_,_,rfl,HW.o.1⟩
def slRow(W g:Nat):Value:=.slice (some ⟨g,0,none⟩) W W
theorem QBlk.other{u c:Vz}{g a:Nat}{ts us:List FE}(h:QBlk u g ts)(d:QBlk u a us)(e:Only a u c)(b:g≠a):QBlk c g ts:=
 ⟨h.blk.only e b,fun t f=>⟨(h.ts t f).1.only e d.blk d.no64,(h.ts t f).2⟩⟩
def updM(M:Nat->Nat->Rat)(r c:Nat)(q:Rat):Nat->Nat->Rat:=fun r' c'=>if r'=r/\c'=c then q else M r' c'
structure GM (w u:Vz) (B G W K:Nat) (gs:Vy) (M:Nat->Nat->Rat):Prop where
 base:Below w.heap.size w u
 o:SB u G 93 (gs.map (slRow W)).toArray
 row:∀(r g:Nat),gs[r]?=some g->∃us,QBlk u g us/\us.length=W/\∀(c:Nat) (t:FE),us[c]?=some t->t.q=M r c/\t.k<=K
 nd:∀(r r' g:Nat),gs[r]?=some g->gs[r']?=some g->r=r'
 ne:∀(r g:Nat),gs[r]?=some g->g≠G
 lo:B<=G
 los:∀(r g:Nat),gs[r]?=some g->B<=g
structure BM (w u:Vz) (F:Vw) (G W K:Nat) (gs:Vy) (M:Nat->Nat->Rat):Prop extends GM w u (w.heap.size+1) G W K gs M where
 box:SB u w.heap.size 26 F
section
variable {w u:Vz} {F:Vw} {B G W K:Nat} {gs:Vy} {M:Nat->Nat->Rat}
theorem GM.below{b:Vz}(h:GM w u B G W K gs M)(a:Below u.heap.size u b):GM w b B G W K gs M:=by
 refine⟨h.base.trans (a.mono h.base.size),h.o.below a h.o.lt,fun r g c=>?_,h.nd,h.ne,h.lo,h.los⟩;obtain⟨us,d,e⟩:=h.row r g c;exact⟨us,d.below a,e⟩
theorem BM.below{a:Vz}(h:BM w u F G W K gs M)(b:Below u.heap.size u a):BM w a F G W K gs M:=⟨h.toGM.below b,h.box.below b h.box.lt⟩
theorem GM.congr{M':Nat->Nat->Rat}(h:GM w u B G W K gs M)(a:∀r c,M r c=M' r c):GM w u B G W K gs M':=by
 have:M=M':=funext fun r=>funext fun c=>a r c
 rw[<-this];exact h
theorem BM.congr{M':Nat->Nat->Rat}(h:BM w u F G W K gs M)(a:∀r c,M r c=M' r c):BM w u F G W K gs M':=⟨h.toGM.congr a,h.box⟩
theorem GM.cell{r g:Nat}(h:GM w u B G W K gs M)(a:gs[r]?=some g):u.cell? ⟨G,r,none⟩=some (.slice (some ⟨g,0,none⟩) W W):=by
 rw[h.o.cell];simp[a,slRow]
theorem GM.lt{r g:Nat}(h:GM w u B G W K gs M)(a:gs[r]?=some g):g<u.heap.size:=by
 obtain⟨us,b,_⟩:=h.row r g a;exact b.blk.lt
theorem GM.at{r g c:Nat}(h:GM w u B G W K gs M)(d:gs[r]?=some g)(i:c<W):∃x y z,u.cell? ⟨g,c*3,none⟩=some x/\u.cell? ⟨g,c*3+1,none⟩=some y/\u.cell? ⟨g,c*3+2,none⟩=some z/\u.frozen? ⟨g,c*3,none⟩=false/\u.frozen? ⟨g,c*3+1,none⟩=false/\u.frozen? ⟨g,c*3+2,none⟩=false:=by
 obtain⟨us,a,j,_⟩:=h.row r g d;obtain⟨t,f⟩:∃t,us[c]?=some t:=⟨us[c]'(by omega),gE (by omega)⟩;obtain⟨b,o,e,_,d0,d1,d2⟩:=a.row.at f;cases e;simp only[Nat.zero_add] at d0 d1 d2;exact⟨_,_,_,d0,d1,d2,a.blk.free _,a.blk.free _,a.blk.free _⟩
abbrev set3(u:Vz)(g c:Nat)(x y z:Value):World:=((u.setCell ⟨g,c*3,none⟩ x).setCell ⟨g,c*3+1,none⟩ y).setCell ⟨g,c*3+2,none⟩ z
theorem Qdh(u:Vz)(g c:Nat)(x y z:Value):Only g u (set3 u g c x y z):=(((Only.refl g u).setCell _ _).setCell _ _).setCell _ _
theorem GM.keepV{r g c:Nat}{x y z v:Value}{q:Rat}(h:GM w u B G W K gs M)(b:gs[r]?=some g)(d:FracV u v q):FracV (set3 u g c x y z) v q:=by
 obtain⟨us,a,_⟩:=h.row r g b;exact d.only (Qdh u g c x y z) a.blk a.no64
theorem keep3{g b c:Nat}{x y z:Value}{t:Vr}{C:Vw}(d:SB u b t C)(a:b≠g):SB (set3 u g c x y z) b t C:=d.only (Qdh u g c x y z) a
theorem GM.put{r g c:Nat}{x y z:Value}{q:Rat}(h:GM w u B G W K gs M)(hB:w.heap.size<=B)(d:gs[r]?=some g)(P:c<W)(H:FracV u (.agg #[x,y,z]) q)(I:Fits q K)(J:0<K):GM w (set3 u g c x y z) B G W K gs (updM M r c q):=by
 obtain⟨us,E,L,N⟩:=h.row r g d;have j:=Qdh u g c x y z;have k:=h.los r g d;refine⟨h.base.trans (j.below (Nat.le_trans hB k) h.base.size),h.o.only j (fun e=>h.ne r g d e.symm),fun l f a=>?_,h.nd,h.ne,h.lo,h.los⟩;by_cases e:l=r
 .
  subst e;obtain rfl:g=f:=Option.some.inj (d.symm.trans a);refine⟨us.set c ⟨x,y,z,q,K⟩,Qg1 E (by omega) H I J,by rw[List.length_set];exact L,fun i t b=>?_⟩;by_cases m:i=c
  .
   subst m;rw[List.getElem?_set_self (by omega)] at b;obtain rfl:=Option.some.inj b;exact⟨by simp[updM],Nat.le_refl _⟩
  .
   rw[List.getElem?_set_ne (fun e=>m e.symm)] at b;obtain⟨n,p⟩:=N i t b;exact⟨by rw[n];simp[updM,m],p⟩
 .
  obtain⟨s,v,A,C⟩:=h.row l f a;have D:f≠g:=fun O=>e (h.nd l r f a (by rw[O];exact d))
  refine⟨s,v.other E j D,A,fun i t b=>?_⟩;obtain⟨n,p⟩:=C i t b;exact⟨by rw[n];simp[updM,e],p⟩
theorem BM.put{r g c:Nat}{x y z:Value}{q:Rat}(h:BM w u F G W K gs M)(a:gs[r]?=some g)(b:c<W)(d:FracV u (.agg #[x,y,z]) q)(e:Fits q K)(f:0<K):BM w (set3 u g c x y z) F G W K gs (updM M r c q):=
 ⟨h.toGM.put (Nat.le_succ _) a b d e f,h.box.only (Qdh u g c x y z) (by have:=h.los r g a;omega)⟩
end
def BlankSays(n m:Nat)(w:Vz)(e:Ending)(w':Vz):Prop:=(∃(G:Nat) (gs:Vy),e=.returned (.slice (some ⟨G,0,none⟩) n n)/\gs.length=n/\w.heap.size<=G/\SB w' G 93 (gs.map (slRow m)).toArray/\(∀(r g:Nat),gs[r]?=some g->QBlk w' g (List.replicate m FE.zero)/\G<g)/\(∀(r r' g:Nat),gs[r]?=some g->gs[r']?=some g->r=r'))/\Below w.heap.size w w'
theorem QBlk.zeroOnly{u b:Vz}{g c m:Nat}(h:QBlk u g (List.replicate m FE.zero))(d:Only c u b)(a:g≠c):QBlk b g (List.replicate m FE.zero):=by
 refine⟨h.blk.only d a,fun t e=>?_⟩;obtain⟨_,rfl⟩:=List.mem_replicate.1 e;exact⟨FracV.zero _,Fits.zero,by decide⟩
theorem Qlv(m n k g:Nat)(gs:Vy)(hk:k<n)(hl:gs.length=k):((gs.map (slRow m)++List.replicate (n - k) (Value.slice none 0 0)).set k (slRow m g))=(gs++ [g]).map (slRow m)++List.replicate (n - (k+1)) (Value.slice none 0 0):=by
 rw[show n - k=(n - (k+1))+1 by omega,List.replicate_succ,List.set_append_right _ _ (by rw[List.length_map];omega),List.length_map,hl,Nat.sub_self,List.set_cons_zero];simp
theorem Qlw(n m:Nat)(w:Vz)(hn:n<=1000)(hm:m<=1000):
 Calls prog 77 #[.int .i64 n,.int .i64 m] w (BlankSays n m w):=by
 have t:=fun w=>Qk4 n (by omega) w
 have L:=fun w=>Qdc m (by omega) w
 obtain⟨N,f⟩:=nm (((List.replicate n MR.none).flatMap MR.cells).toArray);obtain⟨P,v⟩:=nm (((List.replicate m FE.zero).flatMap FE.cells).toArray);rw[f] at t;rw[v] at L;have Q:O (N=(List.replicate n (Value.slice none 0 0)).toArray):=Hi (by
  rw[<-f]
  congr 1
  clear f t hn
  induction n with
  |zero=>rfl
  |succ n ih=>rw[List.replicate_succ,List.flatMap_cons,ih,List.replicate_succ];rfl)
 have R:=Hi v.symm;clear f v;go_enter func77,ntmps77;go_wp2_with fail;clear t;obtain⟨G,hG⟩:=nm w.heap.size;obtain⟨V0,j⟩:=nm (w.alloc (.cells N 93));have C:=Ua j;have S:O (SB V0 G 93 (([]:List Nat).map (slRow m)++List.replicate (n - 0) (Value.slice none 0 0)).toArray):=Hi (by
  rw[<-j,<-hG];have:=SB.new w 93 N;rw[Q.o] at this ⊢
  exact this)
 try rw[j]
 try rw[hG]
 rw[hG] at C;have D:=Hi hG;clear j hG;go_loopw [10] (fun i wr=>∃(k:Nat) (gs:Vy),k<=n/\i=.int .i64 k/\gs.length=k/\SB wr G 93 (gs.map (slRow m)++List.replicate (n - k) (Value.slice none 0 0)).toArray/\(∀(r g:Nat),gs[r]?=some g->QBlk wr g (List.replicate m FE.zero)/\G<g)/\(∀(r x g:Nat),gs[r]?=some g->gs[x]?=some g->r=x)/\Below G w wr) (fun i _=>n - (intOf i).toNat)
 case atStart=>exact⟨0,[],by omega,rfl,rfl,S.o,fun r g h=>by simp at h,fun r x g h=>by simp at h,C.o⟩
 case round=>
  obtain⟨k,gs,hk,rfl,y,z,q,E,hb⟩:=hrel;obtain⟨HB,T,U,HN,X⟩:=Id hb z q E y;have c:=z.lt;clear hb z q E;by_cases Y:k<n
  .
   obtain⟨V,H⟩:=nm (wr.alloc (.cells P 141));have A:=Ua H;have HQ:O (QBlk V wr.heap.size (List.replicate m FE.zero)):=Hi (by rw[<-H];exact QBlk.new wr m P R.o);have l:=T.o.below A.o T.o.lt;have f0:=l.free k;have t0:V.cell? ⟨G,k,none⟩=some (.slice none 0 0):=by
    rw[l.cell];have e:(gs.map (slRow m)++List.replicate (n - k) (Value.slice none 0 0)).toArray[k]?=(gs.map (slRow m)++List.replicate (n - k) (Value.slice none 0 0))[k]?:=by simp
    rw[e,List.getElem?_append_right (by rw[List.length_map];omega),List.length_map,y,Nat.sub_self,List.getElem?_replicate,if_pos (by omega)]
   have Z:=Hi l;have q1:((k:Int)<(n:Int)):=by omega
   rw[<-H] at f0 t0;have HV:=Hi H;clear H l y;go_wp2_with fail;have e0:(wr.setCell ⟨G,k,none⟩ (.slice (some ⟨wr.heap.size,0,none⟩) m m)).alloc (.cells P 141)=V.setCell ⟨G,k,none⟩ (.slice (some ⟨wr.heap.size,0,none⟩) m m):=by
    rw[<-HV.o];exact(World.setCell_alloc_past _ _ _ _ c).symm
   rw[e0];have ho:Only G V (V.setCell ⟨G,k,none⟩ (.slice (some ⟨wr.heap.size,0,none⟩) m m)):=(Only.refl G V).setCell _ _;have s:∀(r g:Nat),gs[r]?=some g->g<wr.heap.size:=fun r g b=>(U.o r g b).1.blk.lt
   refine⟨⟨k+1,gs++ [wr.heap.size],by omega,by go_num,by rw[List.length_append];have:=X.o;simp;omega,?_,?_,?_,((HB.o.trans (A.o.mono (Nat.le_of_lt c))).setCell (p:=⟨G,k,none⟩) lZ _)⟩,?_⟩
   .
    have d:=Z.o.set k (.slice (some ⟨wr.heap.size,0,none⟩) m m);rw[List.setIfInBounds_toArray] at d;rw[<-Qlv m n k wr.heap.size gs Y X.o];exact d
   .
    intro r g b;rcases Nat.lt_or_ge r gs.length with h|h
    .
     rw[List.getElem?_append_left h] at b;obtain⟨d,I⟩:=U.o r g b;exact⟨(d.below A.o).zeroOnly ho (by omega),I⟩
    .
     rw[List.getElem?_append_right h] at b;have e1:g=wr.heap.size:=by simpa using mO b
     rw[e1];exact⟨HQ.o.zeroOnly ho (by omega),c⟩
   .
    intro r x g b a;rcases Nat.lt_or_ge r gs.length with h|h<;>rcases Nat.lt_or_ge x gs.length with J|J
    .
     rw[List.getElem?_append_left h] at b;rw[List.getElem?_append_left J] at a;exact HN.o r x g b a
    .
     rw[List.getElem?_append_left h] at b;rw[List.getElem?_append_right J] at a;have e1:g=wr.heap.size:=by simpa using mO a
     have:=s r g b;omega
    .
     rw[List.getElem?_append_right h] at b;rw[List.getElem?_append_left J] at a;have e1:g=wr.heap.size:=by simpa using mO b
     have:=s x g a;omega
    .
     have d:=(gZ b).1;have I:=(gZ a).1;rw[List.length_append] at d I;simp at d I;omega
   . simp[intOf]
     omega
  .
   have aa:k=n:=by omega
   subst aa;go_wp2;go_ret;refine⟨⟨G,gs,rfl,X.o,Nat.le_of_eq D.o,?_,U.o,HN.o⟩,by rw[D.o];exact HB.o⟩;have d:=T.o;rw[Nat.sub_self] at d
   simpa using d
end Go.Proofs.YtppkmifkpjkgpaaGreatDoor
