/- For every world that holds the tables, and every frame of bulk at most 1048576: StillCounts answers true: the statement and its card. -/
import Derived.Test.YtppkmifkpjkgpaaGreatDoorE15TsA
namespace Go.Proofs.YtppkmifkpjkgpaaGreatDoor
open Go.RowKit
open Go.Proofs.Tryz
set_option linter.unusedSimpArgs false
set_option linter.unusedVariables false
set_option maxHeartbeats 8000000
set_option maxRecDepth 1000000
abbrev SG(w:Vz)(B:Nat)(v:Value)(ss:List S2):Prop:=Grow w B 56 2 IsTx v ss.length (ss.flatMap S2.cells)
theorem Qwc:(prog.info? 56).map (fun i=>(i.zero,i.size,i.bytes))=some (some (.agg #[.string ⟨#[]⟩,.string ⟨#[]⟩]),2,32):=by kernel_rfl
theorem SG.app{w:Vz}{B nb c:Nat}{v:Value}{b:List S2}{s:S2}(h:SG w B v b)(f:SB w nb 56 #[.string s.x,.string s.y])(C:b.length<=1000)(hB:B<=w.heap.size)(ty:Vr):
 ∃d w',appR prog 22 ty v (.slice (some ⟨nb,0,none⟩) 1 c) w=.ok d w'/\SG w' B d (b++ [s])/\Below B w w':=by
 obtain⟨i,k,l⟩:=Option.map_eq_some_iff.1 Qwc;injection l with m e
 injection e with e n
 obtain⟨d,w',o,p,q,_⟩:=Grow.app h (P:=prog) (t:=22) (ty:=ty) underlying22 k m e n rfl (by decide) (fun u a=>⟨⟨#[]⟩,by simpa [Value.cells] using a⟩) ⟨nb,0,none⟩ 1 c [.string s.x,.string s.y] rfl (fun j u r=>by
  have:=f.cell j;rw[show (#[Value.string s.x,.string s.y]:Array Value)= [Value.string s.x,.string s.y].toArray from rfl,List.getElem?_toArray,r] at this;unfold Addr.add
  split
  .
   rename_i z;subst z;exact this
  . simpa using this) (fun u a=>by simp only[List.mem_cons,List.not_mem_nil,or_false] at a;rcases a with rfl|rfl<;>rfl) (fun u a=>by simp only[List.mem_cons,List.not_mem_nil,or_false] at a;rcases a with rfl|rfl<;>exact⟨_,rfl⟩) (by omega) (by decide) hB
 refine⟨d,w',o,?_,Qb4 q (fun g A=>(Grow.lt h A).1) hB⟩
 show Grow _ _ _ _ _ _ (b++ [s]).length ((b++ [s]).flatMap S2.cells)
 rw[List.length_append,List.length_singleton,List.flatMap_append]
 simpa [S2.cells] using p
theorem Qwd(a:Vx)(cap n K:Nat)(r:List RT)(w:Vz)(hg:∃m,w.cell? ⟨4,0,none⟩=some (.int .i64 m))(h:PRow w a r)(hk:∀t,t∈ r->t.2.2<=K)(hK:K<274877906000)(hn:r.length=2*n)(hl:n<=100):
 Calls prog 19 #[.slice a r.length cap] w fun e w'=>∃(v:Value) (B:List S2),e=.returned v/\SG w' w.heap.size v B/\B.length=n/\(∀(i:Nat) (t u:RT) (s:S2),r[2*i]?=some t->r[2*i+1]?=some u->B[i]?=some s->QText s.x.data.toList t.2.1/\QText s.y.data.toList u.2.1)/\Below w.heap.size w w':=by
 obtain⟨HH,ae,HK,HN⟩:=Ic h (RBag.start hg) hk hn;obtain⟨N,hN⟩:=nm r.length;rw[hN];have M:=Hi hN;have P:N=2*n:=by omega
 have D:=Hi P;have af:N<=200:=by omega
 clear h hg hk hn hN P;go_enter func19,ntmps19;go_wp2_with fail;go_loopw [3,4] (fun ov iv wr=>∃(k I:Nat) (B:List S2),I=2*k/\k<=n/\iv=.int .i64 I/\SG wr w.heap.size ov B/\B.length=k/\(∀(i:Nat) (t u:RT) (s:S2),r[2*i]?=some t->r[2*i+1]?=some u->B[i]?=some s->QText s.x.data.toList t.2.1/\QText s.y.data.toList u.2.1)/\Below w.heap.size w wr) (fun _ iv _=>N - (intOf iv).toNat)
 case atStart=>exact⟨0,0,[],rfl,Nat.zero_le _,rfl,Grow.nil _ _ _ _ _,rfl,fun i t u s _ _ hs=>by simp at hs,Below.refl _ _⟩
 case round=>
  obtain⟨k,I,B,hI,hk,rfl,E,Q,z,R⟩:=hrel;obtain⟨HI,S,l,T,g⟩:=Id hI E Q z R;obtain⟨oa,oc,ag,_⟩:=Grow.slice E;subst ag;have al:I<=N:=by have:=D.o;omega
  clear E Q z R hI;by_cases am:k<n
  .
   obtain⟨J,hJ⟩:=nm (I+1);have an:J<N:=by have:=D.o;have:=HI.o;omega
   have e2:IntKind.i64.wrap ((I:Int)+1)=(J:Int):=by rw[wrap_i64 _ (by omega) (by omega)];omega
   have q1:((J:Int)<(N:Int)):=by omega
   have q2:((I:Int)<(N:Int)):=by omega
   have q3:((0:Int)<=(J:Int)):=by omega
   have q4:((0:Int)<=(I:Int)):=by omega
   obtain⟨x,U⟩:∃x,r[I]?=some x:=⟨_,gE (by have:=M.o;omega)⟩;obtain⟨y,V⟩:∃y,r[J]?=some y:=⟨_,gE (by have:=M.o;omega)⟩;obtain⟨b,W,rfl,F,c0⟩:=HH.o.at U;obtain⟨b',ak,ah,ao,c1⟩:=HH.o.at V;cases ah;obtain⟨d0,d1⟩:=Ja g.o F c0 c1;have hb:=Nat.lt_of_lt_of_le F g.o.size;obtain⟨C0,C1⟩:=Ia c0 c1;clear c0 c1;obtain⟨KX,KY⟩:=Ia (Nat.lt_of_le_of_lt (HK.o x (mO U)) hK) (Nat.lt_of_le_of_lt (HK.o y (mO V)) hK);have q:O (RBag wr wr [x,y]):=Hi ⟨Below.refl _ _,(ae.o.below g.o).glob,fun t ht=>by
    have hv:=(HH.o.below g.o).vs;rcases List.mem_cons.1 ht with rfl|ht
    . exact hv _ (mO U)
    . obtain rfl:=List.mem_singleton.1 ht
      exact hv _ (mO V)⟩
   obtain⟨D0,D1,HX,HY,HJ⟩:=Id d0 d1 U V hJ;clear U V hJ;go_wp2_with fail;go_region_held3 (fun v=>v.cell? ⟨b,W+I,none⟩=some (.pointer (some ⟨x.1,0,none⟩))/\v.cell? ⟨b,W+J,none⟩=some (.pointer (some ⟨y.1,0,none⟩))) ((first|(simp [*];done)|go_keep)) (first
    |
     (go_at_call_of 55 (Value.pointer (some ⟨x.1,0,none⟩))
      apply cM;apply RBag.text (w0:=wr);(focus(first|exact q.o|exact q.o.drew));(repeat(first|exact mH|apply mT));(focus(first|exact KX.o|exact KY.o));rintro e wn ⟨⟨s,rfl,hs⟩,j⟩;have HS:=Hi hs;clear q;have q:=Hi j;clear hs j d0 d1;obtain⟨d0,d1⟩:=Ja q.o.base hb D0.o D1.o
      skip)
    |
     (go_at_call_of 55 (Value.pointer (some ⟨y.1,0,none⟩))
      apply cM;apply RBag.text (w0:=wr);(focus(first|exact q.o|exact q.o.drew));(repeat(first|exact mH|apply mT));(focus(first|exact KX.o|exact KY.o));rintro e wn ⟨⟨t,rfl,hs⟩,j⟩;have HT:=Hi hs;clear q;have q:=Hi j;clear hs j d0 d1;obtain⟨d0,d1⟩:=Ja q.o.base hb D0.o D1.o
      skip)
    |(
     go_at_call 29;apply cM;apply Qdl s t;rintro e w5 ⟨rfl,G⟩;have H:=Hi (q.o.base.trans (Below.mono (by first|exact G|exact(Below.refl _ _).drew.trans G) q.o.base.size));clear G d0 d1;obtain⟨d0,d1⟩:=Ja H.o hb D0.o D1.o;obtain⟨X,hX⟩:=nm (w5.alloc (.cells #[.string s,.string t] 56));have Y:Bl w5 X:=by rw[<-hX];exact(Below.refl _ _).alloc lZ _
     have p:=H.o.trans (Y.mono H.o.size);obtain⟨v7,w7,Z,aa,ab⟩:=SG.app (s:=⟨s,t⟩) (c:=1) (Grow.below S.o p) (by rw[<-hX];exact SB.new w5 _ _) (by rw[l.o];omega) (Nat.le_trans g.o.size p.size) 22;obtain⟨ai,ad⟩:=Ia aa ((g.o.trans (p.mono g.o.size)).trans ab);obtain⟨g0,g1⟩:=Ja ad.o F C0.o C1.o;rw[<-hX] at Z
     clear hX Y p aa ab)
    |fail)
   all_goals
    go_wp2;go_roundw
    case rel=>
     refine⟨k+1,I+2,B++ [⟨s,t⟩],by have:=HI.o;omega,by omega,by go_num,ai.o,by simp[l.o],fun i t' u' s' L C A=>?_,ad.o⟩;rcases Nat.lt_or_ge i k with hi|hi
     . rw[List.getElem?_append_left (by have:=l.o;omega)] at A
       exact T.o i t' u' s' L C A
     .
      have aj:=(gZ A).1;rw[List.length_append,l.o,List.length_singleton] at aj;obtain rfl:i=k:=by omega
      rw[List.getElem?_append_right (by have:=l.o;omega),l.o,Nat.sub_self] at A;obtain rfl:=Option.some.inj A;rw[<-HI.o] at L C;rw[HJ.o] at C;obtain rfl:=Option.some.inj (HX.o.symm.trans L);obtain rfl:=Option.some.inj (HY.o.symm.trans C);exact⟨HS.o,HT.o⟩
    case measure=>simp[intOf];omega
  .
   obtain rfl:n=k:=by omega
   have q1:¬((I:Int)+1<(N:Int)):=by have:=D.o;have:=HI.o;omega
   go_wp2;go_ret;exact⟨_,rfl,B,S.o,l.o,fun i a b c d e f s h1 h2 h3=>T.o i (a,b,c) (d,e,f) s h1 h2 h3,g.o⟩
theorem Qwx(v x y:Vx)(c1 c2 c3:Nat)(m:List S2)(n:List B6)(hs:List H3)(c b:Int)(w:Vz)(I:Glob w)(J:FrRow w v x y c1 c2 c3 m n hs)(K:FrSized m n hs)(d:FrameFault m n hs c b)(L:c≠0):
 Calls prog 9 #[.agg #[.slice v m.length c1,.slice x n.length c2,.slice y hs.length c3]] w fun e w'=>e=.returned (.tuple #[.slice none 0 0,.agg #[.int .i64 c,.int .i64 b]])/\Below w.heap.size w w':=by
 obtain⟨N,O,P,z,A⟩:=Id I J K d L;clear I J K d L;obtain⟨r,j⟩:=nm w.heap.size;obtain⟨B,f⟩:=nm ((w.alloc (.cells #[.slice v m.length c1,.slice x n.length c2,.slice y hs.length c3] 26)).alloc (.cells #[.int .i64 0,.int .i64 0] 31));have a:=Ub f;have k:=Uh f j;obtain⟨s,C⟩:=Ia f j;have t:w.heap.size<=r+1:=by omega
 have D:=Hi (Qdi v x y c1 c2 c3 m n hs B (N.o.below a.o) (O.o.below a.o) P.o);clear f j;go_enter func9,ntmps9;go_wp2_with fail;rw[s.o,C.o];clear s;go_fit D.o;rintro e E ⟨X,Q,rfl,d,g⟩;obtain⟨R,S⟩:=z.o.inj d;obtain rfl:=R;obtain rfl:=S;obtain⟨V,q⟩:=nm (E.alloc (.cells #[.int .i64 c,.int .i64 b] 31));have l:Bl B V:=by rw[<-q];exact g.alloc g.size _
 obtain⟨h,F⟩:=Ia (k.o.below l k.o.lt) (a.o.trans (l.mono a.o.size));obtain⟨M,i⟩:=nm E.heap.size;have u:SB V M 31 #[.int .i64 c,.int .i64 b]:=by rw[<-q,<-i];exact SB.new E _ _
 obtain⟨T,U,-⟩:=zc u;have G:M≠r+1:=by have:=k.o.lt;have:=g.size;omega
 obtain⟨W,y1,-⟩:=zc h.o;have f0:=h.o.free 0;have f1:=h.o.free 1;have H:=Hi q;have Y:(c != 0)=true:=by simpa using A.o
 rw[<-q,<-i] at T U;rw[<-q] at W y1 f0 f1;rw[<-i] at G;clear q i u l d g;go_wp2;go_region
 all_goals
  go_wp2;rw[H.o];refine bodyPost_ret (Qct rfl _ _ (r+1) 31 #[.int .i64 c,.int .i64 b] (0,0) _ rfl ((h.o.set 0 _).set 1 _) underlying31 rfl Tryz.faultInfo) rfl ?_;exact⟨rfl,((F.o.setCell (p:=⟨r+1,0,none⟩) t _).setCell (p:=⟨r+1,1,none⟩) t _).drew⟩
theorem Qwy(v x y:Vx)(c1 c2 c3:Nat)(m:List S2)(n:List B6)(hs:List H3)(c b:Int)(w:Vz)(I:Glob w)(J:FrRow w v x y c1 c2 c3 m n hs)(K:FrSized m n hs)(d:FrameFault m n hs c b)(L:c≠0):
 Calls prog 10 #[.agg #[.slice v m.length c1,.slice x n.length c2,.slice y hs.length c3]] w fun e w'=>e=.returned (.tuple #[.slice none 0 0,.agg #[.int .i64 c,.int .i64 b]])/\Below w.heap.size w w':=by
 obtain⟨N,O,P,z,A⟩:=Id I J K d L;clear I J K d L;obtain⟨r,j⟩:=nm w.heap.size;obtain⟨B,f⟩:=nm ((w.alloc (.cells #[.slice v m.length c1,.slice x n.length c2,.slice y hs.length c3] 26)).alloc (.cells #[.int .i64 0,.int .i64 0] 31));have a:=Ub f;have k:=Uh f j;obtain⟨s,C⟩:=Ia f j;have t:w.heap.size<=r+1:=by omega
 have D:=Hi (Qdi v x y c1 c2 c3 m n hs B (N.o.below a.o) (O.o.below a.o) P.o);clear f j;go_enter func10,ntmps10;go_wp2_with fail;rw[s.o,C.o];clear s;go_fit D.o;rintro e E ⟨X,Q,rfl,d,g⟩;obtain⟨R,S⟩:=z.o.inj d;obtain rfl:=R;obtain rfl:=S;obtain⟨V,q⟩:=nm (E.alloc (.cells #[.int .i64 c,.int .i64 b] 31));have l:Bl B V:=by rw[<-q];exact g.alloc g.size _
 obtain⟨h,F⟩:=Ia (k.o.below l k.o.lt) (a.o.trans (l.mono a.o.size));obtain⟨M,i⟩:=nm E.heap.size;have u:SB V M 31 #[.int .i64 c,.int .i64 b]:=by rw[<-q,<-i];exact SB.new E _ _
 obtain⟨T,U,-⟩:=zc u;have G:M≠r+1:=by have:=k.o.lt;have:=g.size;omega
 obtain⟨W,y1,-⟩:=zc h.o;have f0:=h.o.free 0;have f1:=h.o.free 1;have H:=Hi q;have Y:(c != 0)=true:=by simpa using A.o
 rw[<-q,<-i] at T U;rw[<-q] at W y1 f0 f1;rw[<-i] at G;clear q i u l d g;go_wp2;go_region
 all_goals
  go_wp2;rw[H.o];refine bodyPost_ret (Qct rfl _ _ (r+1) 31 #[.int .i64 c,.int .i64 b] (0,0) _ rfl ((h.o.set 0 _).set 1 _) underlying31 rfl Tryz.faultInfo) rfl ?_;exact⟨rfl,((F.o.setCell (p:=⟨r+1,0,none⟩) t _).setCell (p:=⟨r+1,1,none⟩) t _).drew⟩
theorem Qe8{s t:Vs}{q:Rat}(a:QText s.data.toList q)(c:QText t.data.toList q):s=t:=by
 have:=a.inj c;cases s;cases t
 congr 1
 exact Array.toList_inj.1 this
section
variable {nb nh:Nat} {M:List Vec} {b:List Rat} {w w':Vz} {e:Ending}
end
def strM(nj:Nat)(vb:List (Nat × Nat × Rat × Rat))(nb:Nat)(vh:Vy)(r:Nat):Vec:=fun c=>if c<2*nj then (if r<nb then -(balM vb nb vh c r) else balM vb nb vh c r) else 0
section
variable {n:Nat} {js:List S2} {bs:List B6} {hs:List H3} {vb:List (Nat × Nat × Rat × Rat)} {vh:Vy}
theorem Qwn(a:FrV n js bs hs vb vh){i k:Nat}{p:Nat × Nat × Rat × Rat}(b:vb[i]?=some p)(c:p.1<js.length)(d:p.2.1<js.length)(e:p.1≠p.2.1)(hk:k<2*js.length):stretch p (unitV k)=strM js.length vb bs.length vh i k:=by
 have h:=Qxt a (unitV k) b c d e;rw[Qe7 hk] at h;have f:=(gZ b).1;unfold colV at h;unfold strM;rw[if_pos hk] at h ⊢;rw[if_pos (by have:=a.lb;omega),h];grind
theorem Qwo(a:FrV n js bs hs vb vh){i k r:Nat}(b:vh[i]?=some r)(c:r<2*js.length)(hk:k<2*js.length):unitV k r=strM js.length vb bs.length vh (bs.length+i) k:=by
 have h:=Qxu a (unitV k) b c;rw[Qe7 hk] at h;unfold colV at h;unfold strM;rw[if_pos hk] at h ⊢;rw[if_neg (by omega),h]
theorem Qwp{P b a nb:Nat}(h:FrP P b vb)(r c:Nat)(d:Wh P b 0):Wh P b (strM a vb nb vh r c):=by
 unfold strM
 split
 .
  split
  . exact(h.at c r).neg
  . exact h.at c r
 . exact d
theorem Qwq(f:FrV n js bs hs vb vh)(x:Vec):Null (2*js.length) ((List.range (bs.length+hs.length)).map (strM js.length vb bs.length vh)) x↔Null (2*js.length) (balCols js.length vb bs.length vh hs.length) x:=by
 have b:∀r,dot (2*js.length) (strM js.length vb bs.length vh r) x=0↔dot (2*js.length) (colV (2*js.length) (balM vb bs.length vh) r) x=0:=fun r=>by
  by_cases e:r<bs.length
  .
   have h:dot (2*js.length) (strM js.length vb bs.length vh r) x=dot (2*js.length) (fun i=>colV (2*js.length) (balM vb bs.length vh) r i* -1) x:=Qai _ _ _ _ _ (fun c a=>by simp only[strM,colV,if_pos a,if_pos e];grind);rw[h,Qc7];grind
  . rw[Qai _ (strM js.length vb bs.length vh r) x (colV (2*js.length) (balM vb bs.length vh) r) x (fun c a=>by simp only[strM,colV,if_pos a,if_neg e])]
 rw[Qma];constructor
 . intro h c a
   exact(b c).1 (h _ (List.mem_map.2 ⟨c,List.mem_range.2 a,rfl⟩))
 .
  intro h r d;obtain⟨c,a,rfl⟩:=List.mem_map.1 d;exact(b c).2 (h c (List.mem_range.1 a))
theorem Qwr{a nb r c:Nat}(b:2*a<=c):strM a vb nb vh r c=0:=by
 unfold strM;rw[if_neg (by omega)]
end
theorem PV.stretch{w:Vz}{B g N K k:Nat}{us:List RT}{p:Nat × Nat × Rat × Rat}(h:PV w B g N K (unitV k) us)(e:2*p.1+1<N)(f:2*p.2.1+1<N):stretch p (qv us)=stretch p (unitV k):=by
 have a:∀j,j<N->qv us j=unitV k j:=fun j c=>by
  obtain⟨b,i,d,_⟩:=h.get c;rw[qv_at d]
 unfold Go.Proofs.YtppkmifkpjkgpaaGreatDoor.stretch;rw[a _ (by omega),a _ (by omega),a _ (by omega),a _ (by omega)]
theorem PV.row{w:Vz}{B g n K:Nat}{x:Vec}{a:List RT}(h:PV w B g n K x a):PRow w (some ⟨g,0,none⟩) a:=by
 have:=h.take (m:=a.length);rw[List.take_length] at this;exact this
def Cells5(a b c d e:Addr)(x y z t u:Value)(v:Vz):Prop:=v.cell? a=some x/\v.cell? b=some y/\v.cell? c=some z/\v.cell? d=some t/\v.cell? e=some u
theorem cq5{a b c d e:Addr}{x y z t u:Value}(v:Vz)(f:v.cell? a=some x)(g:v.cell? b=some y)(h:v.cell? c=some z)(i:v.cell? d=some t)(j:v.cell? e=some u):Cells5 a b c d e x y z t u v:=⟨f,g,h,i,j⟩
theorem Qws(a1 a2 a3:Vx)(c1 c2 c3 K:Nat)(js:List S2)(bs:List B6)(hs:List H3)(vb:List (Nat × Nat × Rat × Rat))(vh:Vy)(w:Vz)
 (hg:∃m,w.cell? ⟨4,0,none⟩=some (.int .i64 m)) (hf:FrRow w a1 a2 a3 c1 c2 c3 js bs hs) (hv:FrV 1048576 js bs hs vb vh) (hw:∀(i:Nat) (h:H3),hs[i]?=some h->h.w=1∨h.w=2) (G:16777229<=K):
 Calls prog 15 #[.agg #[.slice a1 js.length c1,.slice a2 bs.length c2,.slice a3 hs.length c3]] w fun e w'=>∃(R g:Nat) (vs:Vv) (f:List (List RT)),R=bs.length+hs.length/\e=.returned (.slice (some ⟨g,0,none⟩) R R)/\GR w' w.heap.size g vs f/\vs.length=R/\Bals (strM js.length vb bs.length vh) K 0 (2*js.length) f/\Bl w w':=by
 have n1:=hv.j;have n2:=hv.b;have n3:=hv.h;obtain⟨HG,HF,HV,HW⟩:=Ic (RBag.start hg) hf hv hw;obtain⟨N,hN⟩:=nm (2*js.length);obtain⟨R,hR⟩:=nm (bs.length+hs.length);have eN:IntKind.i64.wrap (2*(js.length:Int))=(N:Int):=by rw[wrap_i64 _ (by omega) (by omega)];omega
 have b4:=fun w=>Qhy R (by omega) w
 obtain⟨MC,bh⟩:=nm ((List.replicate R (Value.slice none 0 0)).toArray);rw[bh] at b4;obtain⟨B0,bi⟩:=nm w.heap.size;obtain⟨V,hV⟩:=nm (w.alloc (.cells #[.slice a1 js.length c1,.slice a2 bs.length c2,.slice a3 hs.length c3] 26));have b5:=Ua hV;have b6:=Uf hV bi;obtain⟨au,a7⟩:=Ia hN hR;have dc:N<=20:=by omega
 have dd:R<=44:=by omega
 have de:bs.length<=R:=by omega
 obtain⟨cq,cr,cs⟩:=Ib hV bi bh;clear hg hf hv hw hN hR bh hV bi;go_enter func15,ntmps15;go_wp2_with fail;rw[cq.o];simp only[cr.o];go_fit (Qep a1 a2 a3 c1 c2 c3 js.length bs.length hs.length V n2 n3);rintro e w1 ⟨rfl,a8⟩;have en:((bs.length:Int)+(hs.length:Int))=(R:Int):=by have:=a7.o;omega
 rw[en];obtain⟨df,D,a9⟩:=Ib a8 (b5.o.trans (a8.mono b5.o.size)) (b6.o.below a8 b6.o.lt);obtain⟨g,bj⟩:=nm w1.heap.size;obtain⟨W1,ba⟩:=nm (w1.alloc (.cells MC 103));have b7:O (GR W1 g g (List.replicate R (Value.slice none 0 0)) (List.replicate R [])):=Hi (by rw[<-ba,<-cs.o,<-bj];exact GR.start w1 R);have H:=Ua ba;obtain⟨I,b8⟩:=Ia bj ba;clear a8 en bj ba;go_wp2_with fail;rw[b8.o];rw[I.o];clear b4;go_loopw [5] (fun iv wr=>∃(k:Nat) (vs:Vv) (f:List (List RT)),k<=N/\iv=.int .i64 k/\GR wr g g vs f/\vs.length=R/\Bals (strM js.length vb bs.length vh) K 0 k f/\Below g w1 wr) (fun iv _=>N - (intOf iv).toNat)
 case atStart=>
  refine⟨0,_,_,Nat.zero_le _,rfl,b7.o,by simp,fun r ts hr=>?_,H.o.mono (Nat.le_of_eq I.o.symm)⟩;obtain⟨_,rfl⟩:=List.mem_replicate.1 (mO hr);exact⟨by simp,fun c t hc=>by simp at hc⟩
 case round=>
  clear b7 H b8;obtain⟨k,vs,f,hk,rfl,Y,aa,ab,l⟩:=hrel;obtain⟨d,x,B,C,S⟩:=Id Y aa ab l (D.o.trans (l.mono (by have:=I.o;have:=D.o.size;omega)));clear Y aa ab l;by_cases ct:k<N
  .
   have q1:(k:Int)<(N:Int):=by omega
   have b9:O (k<2*js.length):=Hi (by have:=au.o;omega);have HU:=Hi (Qgm N k wr ((HG.o.below S.o).glob) ct (by omega));go_wp2_with fail;go_fit HU.o;rintro e w2 ⟨F,us,rfl,E,bk⟩;have y:O (PV w2 F F N 1 (unitV k) us):=Hi ⟨E.blk,Nat.le_refl _,E.len,E.q⟩;have bl:O (wr.heap.size<=F):=Hi E.low;have ca:=Hi (d.o.below bk);have av:O (Below g w1 w2):=Hi (C.o.trans (bk.mono (by have:=C.o.size;have:=I.o;omega)));have A:O (∀u,u∈ vs->u.ownBlock≠some F):=Hi (fun u hu e=>by have:=(d.o.own_ne hu e).2;have:=bl.o;omega);have aw:O (F≠g):=Hi (fun e=>by have:=d.o.blk.lt;have:=bl.o;omega);have ad:O (B0<g):=Hi (by have:=a9.o.lt;have:=I.o;omega);clear E bk HU;obtain⟨-,z1,-⟩:=zc (a9.o.below av.o ad.o);go_wp2_with fail;clear z1
   go_loopw [28] (fun iv wr=>∃(i:Nat) (vs:Vv) (f:List (List RT)),i<=bs.length/\iv=.int .i64 i/\GR wr g g vs f/\vs.length=R/\Bals (strM js.length vb bs.length vh) K i k f/\PV wr F F N 1 (unitV k) us/\(∀u,u∈ vs->u.ownBlock≠some F)/\Below g w1 wr) (fun iv _=>bs.length - (intOf iv).toNat)
   case atStart=>exact⟨0,vs,f,Nat.zero_le _,rfl,ca.o,x.o,B.o,y.o,A.o,av.o⟩
   case round=>
    clear ca av A d x B y S C bl;obtain⟨i,vs,f,hi,rfl,Y,aa,ab,E,ae,l⟩:=hrel;obtain⟨d,x,B,y,A,C,S,af⟩:=Ig Y aa ab E ae l (D.o.trans (l.mono (by have:=I.o;have:=D.o.size;omega))) (a9.o.below l ad.o);clear Y aa ab E ae l;by_cases cu:i<bs.length
    .
     obtain⟨v,hv⟩:∃v,vs[i]?=some v:=⟨_,gE (by rw[x.o];omega)⟩;obtain⟨ts,ag,hp,x0,va,vc,rfl⟩:=d.o.get hv;obtain⟨b,bm⟩:∃b,bs[i]?=some b:=⟨_,gE cu⟩;obtain⟨p,bn⟩:∃p,vb[i]?=some p:=⟨vb[i]'(by have:=HV.o.lb;omega),gE _⟩;have bc:=HV.o.vb i b p bm bn;obtain⟨s,t,_,_,_,_,e1,e2,_⟩:=bc.ex;have l1:=(gZ e1).1;have l2:=(gZ e2).1;have M:=(B.o i ts ag).1;rw[if_neg (Nat.lt_irrefl _)] at M;have cv:=Hi M;have br:O (stretch p (qv us)=strM js.length vb bs.length vh i k):=Hi (by
      have:=au.o;rw[y.o.stretch (by omega) (by omega)]
      exact Qwn HV.o bn l1 l2 bc.ne b9.o)
     have bd:Bl wr wr.drew:=bR.drew;have cb:=Hi (Qwm a1 a2 a3 (some ⟨F,0,none⟩) c1 c2 c3 N i 1 js bs hs b p us wr.drew ((HG.o.below S.o).below bd).glob ((HF.o.below S.o).below bd) bm bc n1 n2 ((y.o.below bd).row) (by rw[y.o.len];exact au.o.symm) (fun t ht=>by
      obtain⟨j,hj⟩:=List.getElem?_of_mem ht
      exact(y.o.q j t hj).2) (by decide))
     rw[y.o.len] at cb;obtain⟨cc,cd⟩:=Ia ag hv;have cf:=d.o.blk.lt;have cg:=af.o.lt;obtain⟨tn,aq⟩:=nm ts.length;rw[aq] at x0 cd;have dg:=Hi aq;obtain⟨z0,z1,z2,-⟩:=zc af.o;have cw:=Hi x0;have q2:(i:Int)<(bs.length:Int):=by omega
     have q3:(i:Int)<(R:Int):=by omega
     clear hv hp ag bm bn bc e1 e2 l1 l2 M bd aq;go_wp2_with fail;have a:=cq4 wr.drew x0 z0 z1 z2;refine AnyBut.beg (k:=13) (by kernel_rfl) a ?_;refine Plan.of [0,1,2,3,4,5,6,7,8,9,10,11,12,13] ?_
     iterate 9
      refine AnyBut.bp (v:=?_) (by rfl) (by kernel_rfl) (by kernel_rfl) (by kernel_rfl) (by kernel_rfl) (by exact fun _ _ _ h=>h) a (Or.inl ⟨by rfl,?_⟩) ?_
      rotate_left 1
      (focus(intro wq ak;obtain⟨bt,bu,bv,bw⟩:=ak;first|(go_simp;done)|(go_simp;with_reducible rfl)));(try simp only[Act.put,sA,sB,sC])
     clear a;refine AnyBut.op (by kernel_rfl) (by rfl) (fun KK G=>?_);go_simp;apply cM;apply cb.o;rintro e w2 ⟨bq,rfl,ax⟩;have H:O (Bl wr w2):=Hi (bR.drew.trans ax.base);have bx:=ax.ts _ (List.Mem.head _);clear x0 z0 z1 z2;have x0:=ce H.o cf cw.o;have L:=af.o.below H.o cg;obtain⟨z0,z1,z2,-⟩:=zc L;obtain⟨v',w4,P,y0,y1,⟨na,nc,ay⟩,ah,T,az,ar⟩:=(d.o.below H.o).app (K:=K) cd.o cc.o bx.1 (bx.2.1.mono (by simp only;omega)) (by omega) (by have:=cv.o;omega) (by have:=d.o.low;have:=H.o.size;omega) 103;subst ay;have ai:=y.o.below H.o
     obtain⟨Q,aj⟩:=ar F A.o ai.blk.blk.lt aw.o;have ao:=Hi ah;have bz:=Hi T;have ap:O (PV _ F F N 1 _ us):=Hi ⟨⟨ai.blk.blk.same Q,fun t ht=>⟨az _ _ (ai.blk.vs t ht).1,(ai.blk.vs t ht).2⟩⟩,ai.low,ai.len,ai.q⟩;have U:=Hi aj;have ch:=L.below (T.mono lZ) (by have:=ad.o;omega);obtain⟨y2,y3,y4,-⟩:=zc ch;have W:Bl w2 (w2.alloc (.cells #[.pointer (some ⟨bq,0,none⟩)] 84)):=bR.alloc lZ _;have u0:=ce W (Nat.lt_of_lt_of_le cf H.o.size) x0;have be:=L.below W L.lt
     have u1:(w2.alloc (.cells #[.pointer (some ⟨bq,0,none⟩)] 84)).cell? ⟨B0,0,none⟩=some (.slice a1 js.length c1):=be.cell 0;have u2:(w2.alloc (.cells #[.pointer (some ⟨bq,0,none⟩)] 84)).cell? ⟨B0,1,none⟩=some (.slice a2 bs.length c2):=be.cell 1;have u3:(w2.alloc (.cells #[.pointer (some ⟨bq,0,none⟩)] 84)).cell? ⟨B0,2,none⟩=some (.slice a3 hs.length c3):=be.cell 2;clear ax bx ah T az ar Q aj ai L ch W be;refine G.out _ _ (fun _=>⟨x0,z0,z1,z2⟩) ?_;clear G KK;(try simp only[Act.put,sA,sB,sC]);refine AnyBut.op (by kernel_rfl) (by rfl) (fun KK G=>?_);go_simp;refine G.out _ _ (fun _=>⟨u0,u1,u2,u3⟩) ?_;clear G KK;(try simp only[Act.put,sA,sB,sC]);clear u0 u1 u2 u3;refine AnyBut.op (by kernel_rfl) (by rfl) (fun KK G=>?_)
     refine Qa4 (t:=103) rfl (.tmp 36) (.tmp 41) rfl (vs:=.slice va tn vc) (vx:=.slice (some ⟨w2.heap.size,0,none⟩) 1 1) (by simp[Act.eval]) (by simp[Act.eval]) P ?_;refine G.out _ _ (fun _=>⟨y0,y2,y3,y4⟩) ?_;clear G KK;(try simp only[Act.put,sA,sB,sC]);have a:=cq4 w4 y0 y2 y3 y4;refine AnyBut.bp (v:=?_) (by rfl) (by kernel_rfl) (by kernel_rfl) (by kernel_rfl) (by kernel_rfl) (by exact fun _ _ _ h=>h) a (Or.inl ⟨by rfl,?_⟩) ?_
     rotate_left 1
     (focus(intro wq ak;obtain⟨bt,bu,bv,bw⟩:=ak;first|(go_simp;done)|(go_simp;with_reducible rfl)));(try simp only[Act.put,sA,sB,sC]);clear a;refine AnyBut.op (by kernel_rfl) (by rfl) (fun KK G=>?_);go_simp;refine G.out _ _ (fun h=>absurd rfl h) ?_;clear G KK;(try simp only[Act.put,sA,sB,sC]);refine Plan.done (AnyBut.done (by kernel_rfl) ?_ _);clear x0 z0 z1 z2 y0 y1 y2 y3 y4 P;go_wp2;go_roundw
     case rel=>
      exact⟨i+1,_,_,by omega,by go_num,ao.o,by rw[List.length_set];exact x.o,B.o.step cc.o br.o,ap.o,U.o,(C.o.trans (H.o.mono (by have:=C.o.size;have:=I.o;omega))).trans (bz.o.setCell (p:=⟨g,i,none⟩) lZ _)⟩
     case measure=>simp[intOf];omega
    .
     obtain rfl:i=bs.length:=by omega
     obtain⟨-,-,z2,-⟩:=zc af.o;go_wp2_with fail;clear z2;go_loopw [48] (fun iv wr=>∃(m:Nat) (vs:Vv) (f:List (List RT)),m<=hs.length/\iv=.int .i64 m/\GR wr g g vs f/\vs.length=R/\Bals (strM js.length vb bs.length vh) K (bs.length+m) k f/\PV wr F F N 1 (unitV k) us/\(∀u,u∈ vs->u.ownBlock≠some F)/\Below g w1 wr) (fun iv _=>hs.length - (intOf iv).toNat)
     case atStart=>exact⟨0,vs,f,Nat.zero_le _,rfl,d.o,x.o,B.o,y.o,A.o,C.o⟩
     case round=>
      clear A d x B y S C af;obtain⟨m,vs,f,hm,rfl,Y,aa,ab,E,ae,l⟩:=hrel;obtain⟨d,x,B,y,A,C,S,af⟩:=Ig Y aa ab E ae l (D.o.trans (l.mono (by have:=I.o;have:=D.o.size;omega))) (a9.o.below l ad.o);clear Y aa ab E ae l;by_cases cx:m<hs.length
      .
       obtain⟨h,bf⟩:∃h,hs[m]?=some h:=⟨_,gE cx⟩;obtain⟨R0,b0⟩:∃r,vh[m]?=some r:=⟨vh[m]'(by have:=HV.o.lh;omega),gE _⟩;obtain⟨J,hJ,cy,b1⟩:=(HV.o.vh m h R0 bf b0).ex;obtain⟨bb,bo,rfl,dh,d0,d1,d2⟩:=(HF.o.h.below S.o).hold bf;obtain⟨WW,ci,cj,cz⟩:∃WW:Nat,h.w=(WW:Int)/\(WW=1∨WW=2)/\R0+1=2*J+WW:=by
        rcases HW.o m h bf with e|e
        . exact⟨1,by rw[e];rfl,.inl rfl,by rw[b1,if_pos e]⟩
        . exact⟨2,by rw[e];rfl,.inr rfl,by rw[b1,if_neg (by omega)]⟩
       rw[hJ] at d0;rw[ci] at d1;obtain⟨RI,a0⟩:=nm (bs.length+m);obtain⟨J2,c0⟩:=nm (2*J);obtain⟨S1,c4⟩:=nm (J2+WW);have di:IntKind.i64.wrap (2*(J:Int))=(J2:Int):=by rw[wrap_i64 _ (by omega) (by omega)];omega
       have dj:IntKind.i64.wrap ((J2:Int)+(WW:Int))=(S1:Int):=by rw[wrap_i64 _ (by omega) (by omega)];omega
       have dk:IntKind.i64.wrap ((S1:Int) - 1)=(R0:Int):=by rw[wrap_i64 _ (by omega) (by omega)];omega
       have dl:IntKind.i64.wrap ((bs.length:Int)+(m:Int))=(RI:Int):=by rw[wrap_i64 _ (by omega) (by omega)];omega
       have c5:R0<N:=by have:=au.o;omega
       have ck:RI<R:=by have:=a7.o;omega
       have iR:(R0:Int)<(N:Int):=by omega
       have iI:(RI:Int)<(R:Int):=by omega
       have q2:((m:Int)<(hs.length:Int)):=by omega
       have br:O (unitV k R0=strM js.length vb bs.length vh RI k):=Hi (by
        rw[<-a0]
        exact Qwo HV.o b0 (by omega) b9.o)
       obtain⟨al,a4⟩:=nm wr.heap.size;obtain⟨Z,bg⟩:=nm (wr.alloc (.cells #[.int .i64 (J:Nat),.int .i64 (WW:Nat),.string h.q] 83));obtain⟨X,hX⟩:=nm Z.drew;have b2:Bl wr Z:=by rw[<-bg];exact(Below.refl _ _).alloc lZ _
       have a5:Bl Z X:=by rw[<-hX];exact(Below.refl _ _).drew
       have b3:SB Z al 83 #[.int .i64 (J:Nat),.int .i64 (WW:Nat),.string h.q]:=by rw[<-bg,<-a4];exact SB.new wr _ _
       have am:=b3.below a5 b3.lt;have an:O (Bl wr X):=Hi (b2.trans (a5.mono b2.size));have dm:=Hi am;obtain⟨v,hv⟩:∃v,vs[RI]?=some v:=⟨_,gE (by rw[x.o];exact ck)⟩;obtain⟨ts,ag,hp,x2,va,vc,rfl⟩:=(d.o.below an.o).get hv;have z:=y.o.below an.o;obtain⟨pb,pk,_,x4,hq,cl,_⟩:=z.get c5;have M:=(B.o RI ts ag).1;rw[a0,if_neg (Nat.lt_irrefl _)] at M;have L:=af.o.below an.o af.o.lt;obtain⟨x0,x1,-⟩:=zc am;obtain⟨-,x3,-⟩:=zc L;obtain⟨v',w4,P,y2,y5,⟨na,nc,ay⟩,ah,T,az,ar⟩:=(d.o.below an.o).app (K:=K) hv ag hq (cl.mono (by omega)) (by omega) (by omega) (by have:=d.o.low;have:=d.o.blk.lt;have:=an.o.size;omega) 103;subst ay
       obtain⟨Q,aj⟩:=ar F A.o z.blk.blk.lt aw.o;have ao:=Hi ah;have bz:=Hi T;have ap:O (PV _ F F N 1 _ us):=Hi ⟨⟨z.blk.blk.same Q,fun t ht=>⟨az _ _ (z.blk.vs t ht).1,(z.blk.vs t ht).2⟩⟩,z.low,z.len,z.q⟩;have U:=Hi aj;have cm:=Hi (Bals.step (pb:=pb) (i:=RI) (by rw[<-a0];exact B.o) ag br.o);have c6:O (∀u,u∈ vs->u.ownBlock≠some al):=Hi (fun u hu e=>by have:=(d.o.own_ne hu e).2;omega);have cn:O (al≠g):=Hi (fun e=>by have:=d.o.blk.lt;omega);have a6:∀b,b≠g->b<w4.heap.size->(w4.setCell ⟨g,RI,none⟩ (.slice na (ts.length+1) nc)).heap[b]?=w4.heap[b]?:=fun b hb hl=>((Only.refl g w4).setCell _ _).block b hl hb
       have e1:w4.heap[al]?=X.heap[al]?:=(a6 al cn.o (Nat.lt_of_lt_of_le am.lt T.size)).symm.trans (ar al c6.o am.lt cn.o).1;have e2:w4.heap[F]?=X.heap[F]?:=(a6 F aw.o (Nat.lt_of_lt_of_le z.blk.blk.lt T.size)).symm.trans Q;obtain⟨y0,y1,-⟩:=zc (am.same e1);obtain⟨-,y3,-⟩:=zc (L.below T ad.o);have y4:w4.cell? ⟨F,R0,none⟩=some (.pointer (some ⟨pb,0,none⟩)):=((z.blk.blk.same e2).cell R0).trans ((z.blk.blk.cell R0).symm.trans x4);have W:Bl X (X.alloc (.cells #[.pointer (some ⟨pb,0,none⟩)] 84)):=bR.alloc lZ _;obtain⟨u0,u1⟩:=Ja W am.lt x0 x1
       have u2:=(W.cell (p:=⟨g,RI,none⟩) (d.o.below an.o).blk.lt).trans x2;have u3:=ce W L.lt x3;have u4:=ce W z.blk.blk.lt x4;obtain⟨tn,aq⟩:=nm ts.length;rw[aq] at x2 u2 y2 P ao ap U;obtain⟨c7,c8,cp,c9⟩:=Ic bg a4 hX a0;clear bf b0 hJ cy b1 ci cj cz a0 c0 c4 a4 bg hX b2 a5 b3 am hv ag hp z hq cl M L ah T az ar Q aj a6 e1 e2 W aq;go_wp2_with fail;rw[c7.o];simp only[c8.o];clear d0 d1 d2;have a:=cq5 X x0 x1 x2 x3 x4;rw[<-cp.o] at a;refine AnyBut.beg (k:=27) (by kernel_rfl) a ?_;rw[cp.o] at a ⊢;refine Plan.of [0,1,2,3,4,5,6,7,8,9,10,11,12,13,14,15,16,17,18,19,20,21,22,23,24,25,26,27] ?_
       iterate 24
        refine AnyBut.bp (v:=?_) (by rfl) (by kernel_rfl) (by kernel_rfl) (by kernel_rfl) (by kernel_rfl) (by exact fun _ _ _ h=>h) a (Or.inl ⟨by rfl,?_⟩) ?_
        rotate_left 1
        (focus(intro wq ak;obtain⟨bt,bu,bv,bw,da⟩:=ak;first|(go_simp;done)|(go_simp;with_reducible rfl)));(try simp only[Act.put,sA,sB,sC])
       clear a;refine AnyBut.op (by kernel_rfl) (by rfl) (fun KK G=>?_);go_simp;refine G.out _ _ (fun _=>⟨u0,u1,u2,u3,u4⟩) ?_;clear G KK;(try simp only[Act.put,sA,sB,sC]);clear u0 u1 u2 u3 u4 x0 x1 x2 x3 x4;refine AnyBut.op (by kernel_rfl) (by rfl) (fun KK G=>?_);refine Qa4 (t:=103) rfl (.tmp 66) (.tmp 77) rfl (vs:=.slice va tn vc) (vx:=.slice (some ⟨X.heap.size,0,none⟩) 1 1) (by simp[Act.eval]) (by simp[Act.eval]) P ?_;refine G.out _ _ (fun _=>⟨y0,y1,y2,y3,y4⟩) ?_;clear G KK;(try simp only[Act.put,sA,sB,sC]);have a:=cq5 w4 y0 y1 y2 y3 y4;refine AnyBut.bp (v:=?_) (by rfl) (by kernel_rfl) (by kernel_rfl) (by kernel_rfl) (by kernel_rfl) (by exact fun _ _ _ h=>h) a (Or.inl ⟨by rfl,?_⟩) ?_
       rotate_left 1
       (focus(intro wq ak;obtain⟨bt,bu,bv,bw,da⟩:=ak;first|(go_simp;done)|(go_simp;with_reducible rfl)));(try simp only[Act.put,sA,sB,sC]);clear a;refine AnyBut.op (by kernel_rfl) (by rfl) (fun KK G=>?_);go_simp;refine G.out _ _ (fun h=>absurd rfl h) ?_;clear G KK;(try simp only[Act.put,sA,sB,sC]);refine Plan.done (AnyBut.done (by kernel_rfl) ?_ _);clear y0 y1 y2 y3 y4 y5 P;go_wp2;go_roundw
       case rel=>
        refine⟨m+1,_,_,by omega,by go_num,ao.o,by rw[List.length_set];exact x.o,?_,ap.o,U.o,(C.o.trans (an.o.mono (by have:=C.o.size;have:=I.o;omega))).trans (bz.o.setCell (p:=⟨g,RI,none⟩) lZ _)⟩;rw[<-Nat.add_assoc,c9.o];exact cm.o
       case measure=>simp[intOf];omega
      .
       obtain rfl:m=hs.length:=by omega
       go_wp2;go_roundw
       case rel=>exact⟨k+1,vs,f,by omega,by go_num,d.o,x.o,B.o.next (by rw[d.o.len,x.o];exact Nat.le_of_eq a7.o.symm),C.o⟩
       case measure=>simp[intOf];omega
  .
   obtain rfl:N=k:=by omega
   go_wp2;go_ret;have db:w.heap.size<=g:=by have:=I.o;have:=D.o.size;omega
   exact⟨R,g,vs,f,a7.o.symm,rfl,d.o.mono db,x.o,by rw[au.o];exact B.o,S.o⟩
theorem Qhz{c:Nat}{L:List Vec}{hs:Vy}:∀k,k<=hs.length->nullF c (L.take hs.length) hs k=nullF c L hs k
 |0,_=>rfl
 |k+1,h=>by
  have a:=Qhz (c:=c) (L:=L) (hs:=hs) k (by omega);simp only[nullF,a,List.getD,List.getElem?_take_of_lt (show k<hs.length from h)]
theorem Qh0{W N:Nat}{M b S L:List Vec}{a hs:Vy}(h:Cln 0 W S a)(f:∀x,Null W M x↔Null W S x)(d:Pl W N b W L hs)(g:∀x,Null W b x↔Null W M x):
 a=hs/\∀c,c∈ freeTo a W->∀i,i<W->nullF c S a a.length i=nullF c L hs hs.length i:=by
 obtain⟨e,k⟩:=Qs0 h d.cln (fun x=>(f x).symm.trans ((g x).symm.trans (d.done x)));subst e;refine⟨rfl,fun c j i l=>?_⟩;obtain⟨c1,c2⟩:=freeTo_mem.1 j;rw[k c c1 c2 i l,Qhz _ lZ]
theorem Qnz(a:Vx)(R c:Nat)(w:Vz):
 Calls prog 12 #[.slice a R c,.int .i64 0] w fun e w'=>e=.returned (.slice none 0 0)/\Bl w w':=by
 have d:O (Calls prog 48 #[.slice a R c,.int .i64 0] w fun e w'=>e=.returned (.slice none 0 0)/\Bl w w'):=Hi (by
  go_enter func48,ntmps48;go_wp2_with fail;go_loopw [5,6] (fun g b wr=>g=.slice none 0 0/\b=.int .i64 0/\wr=w) (fun _ _ _=>0)
  case atStart=>exact⟨rfl,rfl,rfl⟩
  case round=>
   obtain⟨rfl,rfl,rfl⟩:=hrel;go_wp2;go_ret
   exact⟨rfl,Below.refl _ _⟩)
 go_enter func12,ntmps12;go_wp2_with fail;go_fit d.o;rintro e h ⟨rfl,f⟩;have i:=Hi f;clear f d;go_wp2_with fail;go_loopw [7,6] (fun b j wr=>b=.int .i64 0/\j=.slice none 0 0/\wr=h) (fun _ _ _=>0)
 case atStart=>exact⟨rfl,rfl,rfl⟩
 case round=>
  obtain⟨rfl,rfl,rfl⟩:=hrel;go_wp2;go_ret;exact⟨rfl,i.o⟩
theorem Qn0{b K:Nat}(h:22*b+200<=K):(20+1)*(2 ^ b*(2*((20+1)*2 ^ b)) ^ 20)*2 ^ b<2 ^ K:=Qny h
theorem Qh1(B g n K P b R:Nat)(vs:Vv)(a:List (List RT))(M:Nat->Vec)(w:Vz)
 (f:∃m,w.cell? ⟨4,0,none⟩=some (.int .i64 m)) (h:4<B) (d:B<=w.heap.size)
 (E:GR w B g vs a) (F:vs.length=R) (G:Bals M K 0 n a) (C:∀r c,n<=c->M r c=0)
 (H:0<P) (k:P<=2 ^ b) (I:∀r j,Wh P b (M r j)) (l:22*b+200<=K) (J:4*K<100000000000) (o:R<=20∨n<=20) (N:n<=1000) (p:R<=1000):
 Calls prog 12 #[.slice (some ⟨g,0,none⟩) R R,.int .i64 n] w fun e w'=>∃(L:List Vec) (hs:Vy) (v:Value) (O:List KR),e=.returned v/\Pl n 20 ((List.range R).map M) n L hs/\KerAt w' w.heap.size n K v O ((freeTo hs n).map fun c=>nullF c L hs hs.length)/\Below B w w':=by
 have D:Pl n 20 ((List.range R).map M) 0 ((List.range R).map M) []:=Pl.start _ _ _ (fun v Q i S=>by
  obtain⟨r,_,rfl⟩:=List.mem_map.1 Q
  exact C r i S) (by simpa using o)
 rcases Nat.eq_zero_or_pos n with rfl|q
 .
  refine(Qnz (some ⟨g,0,none⟩) R R w).mono ?_;rintro e w' ⟨rfl,s⟩;exact⟨_,[],_,[],rfl,D,⟨Grow.nil _ _ _ _ _,rfl,fun i r x t=>by simp at t⟩,s.mono d⟩
 .
  obtain⟨rs,u,y,z⟩:=E.pq G q F d C;exact Qpy B g n 20 K R R [] rs ((List.range R).map M) w f h (fun c L hs A=>A.fits H k (fun r t j=>by
   obtain⟨i,_,rfl⟩:=List.mem_map.1 t
   exact I i j) (Qn0 l) (by omega)) (by omega) J y (by rw[z];exact D) N u p lZ
theorem Qn1(a b:Vx)(c d:Nat)(l:List S2)(w:Vz)(m:ARow S2.cells w a c l)(n:ARow S2.cells w b d l)(hs:l.length<=1000000):
 Calls prog 18 #[.slice a l.length c,.slice b l.length d] w fun e w'=>e=.returned (.bool true)/\Bl w w':=by
 obtain⟨q,r⟩:=Ia m n;clear m n;go_enter func18,ntmps18;go_wp2_with fail;go_loopw [13] (fun h wr=>∃i:Nat,i<=l.length/\h=.int .i64 i/\Bl w wr) (fun h _=>l.length - (intOf h).toNat)
 case atStart=>exact⟨0,by omega,rfl,Below.refl _ _⟩
 case round=>
  obtain⟨i,u,rfl,g⟩:=hrel;have p:=Hi g;by_cases j:i<l.length
  .
   obtain⟨f,k⟩:∃f,l[i]?=some f:=⟨l[i],gE j⟩;obtain⟨v,x,rfl,s,d1,d2⟩:=(q.o.below g).spot k;obtain⟨y,z,rfl,t,d3,d4⟩:=(r.o.below g).spot k;have A:((i:Int)<(l.length:Int)):=by omega
   clear k g s t;go_wp2_with fail;go_quiet (fail);go_wp2;go_roundw
   case rel=>exact⟨i+1,by omega,by go_num,Qeb p.o _⟩
   case measure=>simp[intOf];omega
  .
   obtain rfl:i=l.length:=by omega
   clear g;go_wp2;go_ret;exact⟨rfl,p.o⟩
structure RightF (js:List S2) (bs:List B6) (hs:List H3) (vb:List (Nat × Nat × Rat × Rat)) (vh:Vy) (P:Nat):Prop where
 ok:FrameFault js bs hs 0 0
 fv:FrV 1048576 js bs hs vb vh
 fp:FrP P 8388672 vb
 way:∀(i:Nat) (h:H3),hs[i]?=some h->h.w=1∨h.w=2
theorem Qn2{js:List S2}{bs:List B6}{hs:List H3}{c at_:Int}(e:FrSized js bs hs)(a:FrameFault js bs hs c at_)(f:jW js<=1048576):∃vb vh P,c=0->at_=0/\RightF js bs hs vb vh P:=by
 by_cases b:c=0
 .
  subst b;obtain⟨vb,vh,d,_⟩:=Qmt e a;obtain rfl:=a.few.2.2.2;obtain⟨P,g⟩:=d.over f;exact⟨vb,vh,P,fun _=>⟨rfl,a,d,g,fun i h j=>Qxw (a.few.2.2.1 i h j)⟩⟩
 . exact⟨[],[],0,fun h=>absurd h b⟩
section
variable {js:List S2} {bs:List B6} {hs:List H3} {vb:List (Nat × Nat × Rat × Rat)} {vh:Vy} {P:Nat} {c at_:Int}
def CntIs(js:List S2)(bs:List B6)(hs:List H3)(vb:List (Nat × Nat × Rat × Rat))(vh:Vy)(c r m y:Int):Prop:=(c≠0->r=0/\m=0/\y=0)/\(c=0->∃(L S:List Vec) (hh:Vy),MJ (bs.length+hs.length) 20 (kC 8388672) (balRows js.length vb bs.length vh) (bs.length+hs.length) L S hh/\r=(S.length:Nat)/\m=(bs.length:Int)+(hs.length:Int) - (S.length:Nat)/\y=2*(js.length:Int) - (S.length:Nat))
theorem Qn3(b d f:Vx)(c1 c2 c3:Nat)(w:Vz)(l:Glob w)(n:FrRow w b d f c1 c2 c3 js bs hs)(o:FrSized js bs hs)(a:FrameFault js bs hs c at_)(p:c=0->at_=0/\RightF js bs hs vb vh P):
 Calls prog 8 #[.agg #[.slice b js.length c1,.slice d bs.length c2,.slice f hs.length c3]] w fun e w'=>∃r m y:Int,e=.returned (.tuple #[.int .i64 r,.int .i64 m,.int .i64 y,.agg #[.int .i64 c,.int .i64 at_]])/\CntIs js bs hs vb vh c r m y/\Bl w w':=by
 by_cases g:c=0
 .
  obtain⟨rfl,h⟩:=p g;subst g;obtain⟨i,j,_⟩:=h.fp.rows h.fv;refine(Qhi b d f c1 c2 c3 1048576 (kE 8388672) js bs hs vb vh w l n o a h.fv (by decide) (by decide) _ i j).mono ?_;rintro e w' ⟨⟨L,S,q,rfl,hl,s⟩,k⟩;exact⟨_,_,_,rfl,⟨fun h=>absurd rfl h,fun _=>⟨L,S,q,s,rfl,rfl,rfl⟩⟩,k⟩
 .
  refine(Qmu b d f c1 c2 c3 js bs hs c at_ w l n o a g).mono ?_;rintro e w' ⟨rfl,k⟩;exact⟨0,0,0,rfl,⟨fun _=>⟨rfl,rfl,rfl⟩,fun h=>absurd h g⟩,k⟩
def StsIs(js:List S2)(bs:List B6)(hs:List H3)(vb:List (Nat × Nat × Rat × Rat))(vh:Vy)(c:Int)(xs:List Vec):Prop:=(c≠0->xs= [])/\(c=0->∃(L S:List Vec) (hh:Vy),MJ (bs.length+hs.length) 20 (kC 8388672) (balRows js.length vb bs.length vh) (bs.length+hs.length) L S hh/\xs=(freeTo hh (bs.length+hs.length)).map (fun c=>nullF c (cln S hh) hh hh.length))
theorem Qn4(b d f:Vx)(c1 c2 c3:Nat)(w:Vz)(n:Glob w)(o:FrRow w b d f c1 c2 c3 js bs hs)(q:FrSized js bs hs)(a:FrameFault js bs hs c at_)(r:c=0->at_=0/\RightF js bs hs vb vh P):
 Calls prog 9 #[.agg #[.slice b js.length c1,.slice d bs.length c2,.slice f hs.length c3]] w fun e w'=>∃(v:Value) (j:List SP) (xs:List Vec),e=.returned (.tuple #[v,.agg #[.int .i64 c,.int .i64 at_]])/\StrsAt w' w.heap.size bs.length hs.length v j xs/\StsIs js bs hs vb vh c xs/\Bl w w':=by
 by_cases g:c=0
 .
  obtain⟨rfl,h⟩:=r g;subst g;refine(Qww b d f c1 c2 c3 P 8388672 js bs hs vb vh w n o q a h.fv h.fp (by decide) (by decide)).mono ?_;rintro e w' ⟨L,S,s,v,j,rfl,t,k,l⟩;exact⟨v,j,_,rfl,k,⟨fun h=>absurd rfl h,fun _=>⟨L,S,s,t,rfl⟩⟩,l⟩
 .
  refine(Qwx b d f c1 c2 c3 js bs hs c at_ w n o q a g).mono ?_;rintro e w' ⟨rfl,l⟩;exact⟨_,[],[],rfl,⟨Grow.nil _ _ _ _ _,(fun p m=>by cases m),rfl,(fun i p x m=>by simp at m)⟩,⟨fun _=>rfl,fun h=>absurd h g⟩,l⟩
def MtsIs(js:List S2)(bs:List B6)(hs:List H3)(vb:List (Nat × Nat × Rat × Rat))(vh:Vy)(c:Int)(xs:List Vec):Prop:=(c≠0->xs= [])/\(c=0->∃(L S:List Vec) (hh:Vy),MJ (2*js.length) 20 (kC 8388672) (balCols js.length vb bs.length vh hs.length) (2*js.length) L S hh/\xs=(freeTo hh (2*js.length)).map (fun c=>nullF c (cln S hh) hh hh.length))
theorem Qn5(b d f:Vx)(c1 c2 c3:Nat)(w:Vz)(n:Glob w)(o:FrRow w b d f c1 c2 c3 js bs hs)(q:FrSized js bs hs)(a:FrameFault js bs hs c at_)(r:c=0->at_=0/\RightF js bs hs vb vh P):
 Calls prog 10 #[.agg #[.slice b js.length c1,.slice d bs.length c2,.slice f hs.length c3]] w fun e w'=>∃(v:Value) (j:List SL) (xs:List Vec),e=.returned (.tuple #[v,.agg #[.int .i64 c,.int .i64 at_]])/\MotsAt w' w.heap.size js.length v j xs/\MtsIs js bs hs vb vh c xs/\Bl w w':=by
 by_cases g:c=0
 .
  obtain⟨rfl,h⟩:=r g;subst g;refine(Qqx b d f c1 c2 c3 P 8388672 js bs hs vb vh w n o q a h.fv h.fp (by decide) (by decide)).mono ?_;rintro e w' ⟨L,S,s,v,j,rfl,t,k,l⟩;exact⟨v,j,_,rfl,k,⟨fun h=>absurd rfl h,fun _=>⟨L,S,s,t,rfl⟩⟩,l⟩
 .
  refine(Qwy b d f c1 c2 c3 js bs hs c at_ w n o q a g).mono ?_;rintro e w' ⟨rfl,l⟩;exact⟨_,[],[],rfl,⟨Grow.nil _ _ _ _ _,(fun p m=>by cases m),rfl,(fun i p x m=>by simp at m)⟩,⟨fun _=>rfl,fun h=>absurd h g⟩,l⟩
theorem Qh2(h:RightF js bs hs vb vh P){L S g:List Vec}{b a:Vy}(j:MJ (bs.length+hs.length) 20 (kC 8388672) (balRows js.length vb bs.length vh) (bs.length+hs.length) L S b)(l:Pl (bs.length+hs.length) 20 (balRows js.length vb bs.length vh) (bs.length+hs.length) g a):
 b=a/\(freeTo a (bs.length+hs.length)).length+S.length=bs.length+hs.length/\∀c,c∈ freeTo b (bs.length+hs.length)->∀i,i<bs.length+hs.length->nullF c (cln S b) b b.length i=nullF c g a a.length i:=by
 obtain⟨_,_,d⟩:=h.fp.rows h.fv;obtain⟨⟨f,m⟩,_⟩:=d L S b j;obtain⟨n,o⟩:=Qci (bs.length+hs.length) f;obtain⟨e,k⟩:=Qh0 n (fun x=>(m x).trans (o x).symm) l (fun x=>Iff.rfl);subst e;refine⟨rfl,?_,k⟩;rw[f.len];exact f.free
theorem Qn6(h:RightF js bs hs vb vh P){L S e:List Vec}{b a:Vy}(f:MJ (2*js.length) 20 (kC 8388672) (balCols js.length vb bs.length vh hs.length) (2*js.length) L S b)(g:Pl (2*js.length) 20 ((List.range (bs.length+hs.length)).map (strM js.length vb bs.length vh)) (2*js.length) e a):
 b=a/\∀c,c∈ freeTo b (2*js.length)->∀i,i<2*js.length->nullF c (cln S b) b b.length i=nullF c e a a.length i:=by
 obtain⟨_,_,d⟩:=h.fp.cols h.fv;obtain⟨⟨j,k⟩,_⟩:=d L S b f;obtain⟨l,m⟩:=Qci (2*js.length) j;exact Qh0 l (fun x=>(k x).trans (m x).symm) g (fun x=>Qwq h.fv x)
theorem Qn7{n N:Nat}{r m y:Int}{xs e l o:List Vec}{a b:Vy}(h:RightF js bs hs vb vh P)(t:bs.length+hs.length=n)(u:2*js.length=N)(f:CntIs js bs hs vb vh 0 r m y)(g:StsIs js bs hs vb vh 0 xs)(j:MtsIs js bs hs vb vh 0 e)
 (d:Pl n 20 (balRows js.length vb bs.length vh) n l a) (k:Pl N 20 ((List.range n).map (strM js.length vb bs.length vh)) N o b):
 ∃(p:Nat) (f1 f2:Nat->Vec),xs=(freeTo a n).map f1/\e=(freeTo b N).map f2/\(∀c,c∈ freeTo a n->∀i,i<n->f1 c i=nullF c l a a.length i)/\(∀c,c∈ freeTo b N->∀i,i<N->f2 c i=nullF c o b b.length i)/\r=(p:Nat)/\p+xs.length=n/\m=(xs.length:Nat)/\y=(e.length:Nat):=by
 subst t u;obtain⟨A,v,B,q,rfl,rfl,rfl⟩:=f.2 rfl;obtain⟨C,D,E,w,rfl⟩:=g.2 rfl;obtain⟨F,G,H,s,rfl⟩:=j.2 rfl;obtain⟨rfl,I,_⟩:=Qh2 h q d;obtain⟨rfl,_,x⟩:=Qh2 h w d;obtain⟨rfl,z⟩:=Qn6 h s k;have J:=Qxv h.fp h.fv q s;refine⟨v.length,_,_,rfl,rfl,x,z,rfl,?_,?_,?_⟩
 . rw[List.length_map]
   omega
 . rw[List.length_map]
   omega
 . rw[List.length_map]
   omega
end
theorem Qn8{w w':Vz}{B q nb nh n K k:Nat}{v A:Value}{t:List SP}{h:List KR}{e:Vy}{f g:Nat->Vec}{p:SP}(l:StrsAt w B nb nh v t (e.map f))(u:KerAt w' q n K A h (e.map g))(a:∀c,c∈ e->∀i,i<n->f c i=g c i)(E:nb+nh=n)(m:t[k]?=some p):
 ∃(r:KR) (x:Vec),h[k]?=some r/\PV w' q r.g n K x r.ts/\STold nb x p/\SPat w nb nh p:=by
 have hk:=(gZ m).1;have C:=l.len;have D:=u.len;rw[List.length_map] at C D;obtain⟨c,o⟩:∃c,e[k]?=some c:=⟨_,gE (by omega)⟩;obtain⟨r,y⟩:∃r,h[k]?=some r:=⟨_,gE (by omega)⟩;have hs:=l.each p (mO m);have z:=l.told k p (f c) m (by rw[List.getElem?_map,o];rfl);have b:=mO o;refine⟨r,g c,y,u.each k r (g c) y (by rw[List.getElem?_map,o];rfl),⟨fun j s d=>?_,fun j s d=>?_⟩,hs⟩
 .
  have:=(gZ d).1;rw[<-a c b j (by have:=hs.l1;omega)];exact z.1 j s d
 .
  have:=(gZ d).1;rw[<-a c b (nb+j) (by have:=hs.l2;omega)];exact z.2 j s d
theorem Qh3{l m:Vt}{q:Nat->Rat}(hl:l.length=m.length)(e:∀(i:Nat) (s:Vs),l[i]?=some s->QText s.data.toList (q i))(f:∀(i:Nat) (s:Vs),m[i]?=some s->QText s.data.toList (q i)):l=m:=by
 apply List.ext_getElem?;intro i;rcases Nat.lt_or_ge i l.length with a|a
 .
  have b:=gE a;have d:=gE (show i<m.length by omega);rw[b,d,Qe8 (e i _ b) (f i _ d)]
 . rw[List.getElem?_eq_none a,List.getElem?_eq_none (by omega)]
theorem PV.val{w:Vz}{B g n K:Nat}{x:Vec}{a:List RT}(h:PV w B g n K x a){i:Nat}{t:RT}(b:a[i]?=some t):t.2.1=x i:=(h.q i t b).1
theorem Qn9{w w':Vz}{B nb nh n K:Nat}{x:Vec}{p:SP}{g:Nat}{d:List RT}{a b:Vt}(h:PV w' B g n K x d)(v:nb+nh=n)(l:STold nb x p)(hs:SPat w nb nh p)(m:a.length=nb)(o:b.length=d.length - nb)
 (r:∀(i:Nat) (t:RT) (s:Vs),(d.take nb)[i]?=some t->a[i]?=some s->QText s.data.toList t.2.1) (u:∀(i:Nat) (t:RT) (s:Vs),(d.drop nb)[i]?=some t->b[i]?=some s->QText s.data.toList t.2.1):p.x=a/\p.y=b:=by
 have hl:=h.len;refine⟨Qh3 (q:=x) (by rw[hs.l1,m]) l.1 (fun i s f=>?_),Qh3 (q:=fun j=>x (nb+j)) (by rw[hs.l2,o,hl];omega) l.2 (fun i s f=>?_)⟩
 .
  have k:=(gZ f).1;obtain⟨t,e⟩:∃t,d[i]?=some t:=⟨_,gE (by omega)⟩;rw[<-h.val e];exact r i t s (by rw[List.getElem?_take_of_lt (by omega)];exact e) f
 .
  have k:=(gZ f).1;obtain⟨t,e⟩:∃t,d[nb+i]?=some t:=⟨_,gE (by omega)⟩;rw[<-h.val e];exact u i t s (by rw[List.getElem?_drop];exact e) f
theorem Qoa{w w':Vz}{B q e n K k:Nat}{v A:Value}{t:List SL}{h:List KR}{d:Vy}{f g:Nat->Vec}{m:SL}(l:MotsAt w B e v t (d.map f))(u:KerAt w' q n K A h (d.map g))(a:∀c,c∈ d->∀i,i<n->f c i=g c i)(F:2*e=n)(o:t[k]?=some m):
 ∃(r:KR) (x:Vec),h[k]?=some r/\PV w' q r.g n K x r.ts/\SpotsTold x m.ss/\SLat w e m:=by
 have hk:=(gZ o).1;have C:=l.len;have D:=u.len;rw[List.length_map] at C D;obtain⟨c,p⟩:∃c,d[k]?=some c:=⟨_,gE (by omega)⟩;obtain⟨r,y⟩:∃r,h[k]?=some r:=⟨_,gE (by omega)⟩;have hs:=l.each m (mO o);have E:=l.told k m (f c) o (by rw[List.getElem?_map,p];rfl);have b:=mO p;refine⟨r,g c,y,u.each k r (g c) y (by rw[List.getElem?_map,p];rfl),fun j s z=>?_,hs⟩;have:=(gZ z).1;rw[<-a c b (2*j) (by have:=hs.len;omega),<-a c b (2*j+1) (by have:=hs.len;omega)];exact E j s z
theorem Qob{l m:List S2}{x y:Nat->Rat}(hl:l.length=m.length)(j:∀(i:Nat) (s:S2),l[i]?=some s->QText s.x.data.toList (x i)/\QText s.y.data.toList (y i))(k:∀(i:Nat) (s:S2),m[i]?=some s->QText s.x.data.toList (x i)/\QText s.y.data.toList (y i)):l=m:=by
 apply List.ext_getElem?;intro i;rcases Nat.lt_or_ge i l.length with d|d
 .
  have e:=gE d;have f:=gE (show i<m.length by omega);have g:=j i _ e;have h:=k i _ f;have a:=Qe8 g.1 h.1;have b:=Qe8 g.2 h.2;rw[e,f];revert a b;cases l[i];cases m[i]'(by omega);intro a b;simp only at a b;rw[a,b]
 . rw[List.getElem?_eq_none d,List.getElem?_eq_none (by omega)]
theorem Qoc{w w':Vz}{B b n K g:Nat}{x:Vec}{m:SL}{a:List RT}{d:List S2}(f:PV w' B g n K x a)(q:2*b=n)(l:SpotsTold x m.ss)(hs:SLat w b m)(o:d.length=b)
 (h:∀(i:Nat) (t u:RT) (s:S2),a[2*i]?=some t->a[2*i+1]?=some u->d[i]?=some s->QText s.x.data.toList t.2.1/\QText s.y.data.toList u.2.1):m.ss=d:=by
 have hl:=f.len;refine Qob (x:=fun i=>x (2*i)) (y:=fun i=>x (2*i+1)) (by rw[hs.len,o]) l (fun i s j=>?_);have p:=(gZ j).1;obtain⟨t,e⟩:∃t,a[2*i]?=some t:=⟨_,gE (by omega)⟩;obtain⟨u,k⟩:∃t,a[2*i+1]?=some t:=⟨_,gE (by omega)⟩;rw[<-f.val e,<-f.val k];exact h i t u s e k j
theorem StrsAt.stay(B n m:Nat)(v:Value)(a:List SP)(xs:List Vec):Stay (fun w=>StrsAt w B n m v a xs):=⟨fun _ _ b h=>h.below b⟩
theorem MotsAt.stay(B n:Nat)(v:Value)(a:List SL)(xs:List Vec):Stay (fun w=>MotsAt w B n v a xs):=⟨fun _ _ b h=>h.below b⟩
theorem KerAt.stay(B n K:Nat)(v:Value)(a:List KR)(xs:List Vec):Stay (fun w=>KerAt w B n K v a xs):=⟨fun _ _ b h=>h.below b⟩
theorem GR.stay(B g:Nat)(vs:Vv)(a:List (List RT)):Stay (fun w=>GR w B g vs a):=⟨fun _ _ b h=>h.below b⟩
theorem PBag.nth{w0 w:Vz}{L:List (World->Prop)}{P:World->Prop}(h:PBag w0 w L)(k:Nat)(e:L[k]?=some P):P w:=h.get P (mO e)
theorem PBag.add{w0 w:Vz}{L:List (World->Prop)}{P:World->Prop}(h:PBag w0 w L)(b:P w)(hs:Stay P):PBag w0 w (L++ [P]):=
 ⟨h.base,fun Q a=>by
   rcases List.mem_append.1 a with a|a
   . exact h.ps Q a
   . obtain rfl:=List.mem_singleton.1 a
     exact⟨b,hs⟩⟩
theorem bTr{w x y:Vz}(h:Bl w x)(k:Bl x y):Bl w y:=h.trans (k.mono h.size)
theorem Qod(a b f g:Vx)(c d j k n m:Nat)(x y:Vt)(w:Vz)(l:TLst w a x)(o:TLst w b y)(h:TLst w f x)(i:TLst w g y)(p:x.length=n)(q:y.length=m)(r:n<=1000000)(s:m<=1000000):
 Calls prog 16 #[.agg #[.slice a n c,.slice b m d],.agg #[.slice f n j,.slice g m k]] w fun e w'=>e=.returned (.bool true)/\Bl w w':=by
 subst p q;exact Qhl a b f g c d j k x y w l o h i r s
theorem Qoe(a b:Vx)(c d n:Nat)(l:List S2)(w:Vz)(f:ARow S2.cells w a c l)(g:ARow S2.cells w b d l)(hl:l.length=n)(hs:n<=1000000):
 Calls prog 18 #[.slice a n c,.slice b n d] w fun e w'=>e=.returned (.bool true)/\Bl w w':=by
 subst hl;exact Qn1 a b c d l w f g hs
theorem Qof(a:Vx)(cap n K N:Nat)(b:List RT)(w:Vz)(d:∃m,w.cell? ⟨4,0,none⟩=some (.int .i64 m))(h:PRow w a b)(hk:∀t,t∈ b->t.2.2<=K)(f:K<274877906000)(g:b.length=2*n)(hl:n<=100)(j:b.length=N):
 Calls prog 19 #[.slice a N cap] w fun e w'=>∃(v:Value) (c:List S2),e=.returned v/\SG w' w.heap.size v c/\c.length=n/\(∀(i:Nat) (t u:RT) (s:S2),b[2*i]?=some t->b[2*i+1]?=some u->c[i]?=some s->QText s.x.data.toList t.2.1/\QText s.y.data.toList u.2.1)/\Bl w w':=by
 subst j;exact Qwd a cap n K b w d h hk f g hl
theorem Qog(a1 a2 a3:Vx)(c1 c2 c3:Nat)(A:List S2)(z:List B6)(hs:List H3)(w:Vz)(hg:Glob w)(hm:Marks3 w)(hf:FrRow w a1 a2 a3 c1 c2 c3 A z hs)(hz:FrSized A z hs)
 (n1:A.length<=1048576) (n2:z.length<=1048576) (n3:hs.length<=1048576) (hT:jW A<=1048576):
 Calls prog 3 #[.agg #[.slice a1 A.length c1,.slice a2 z.length c2,.slice a3 hs.length c3]] w fun e w'=>e=.returned (.bool true)/\Bl w w':=by
 have HZ:=Hi hz;obtain⟨B0,bl⟩:=nm w.heap.size;obtain⟨V,hV⟩:=nm (w.alloc (.cells #[.slice a1 A.length c1,.slice a2 z.length c2,.slice a3 hs.length c3] 26));have a:=Hi (((((PBag.start w).add hg Glob.stay).add hm Marks3.stay).add hf (FrRow.stay _ _ _ _ _ _ _ _ _)).below (show Bl w V from by rw[<-hV];exact(Below.refl _ _).alloc lZ _));have l:SB V B0 26 #[.slice a1 A.length c1,.slice a2 z.length c2,.slice a3 hs.length c3]:=by rw[<-hV,<-bl];exact SB.new w _ _
 have f:=Hi (a.o.add (P:=(fun v=>SB v B0 26 #[.slice a1 A.length c1,.slice a2 z.length c2,.slice a3 hs.length c3])) l (SB.stay _ _ _));clear a;have a:=f;clear f;obtain⟨b7,dj⟩:=Ia hV bl;clear hg hm hf hz hV bl l;go_enter func3,ntmps3;go_wp2_with fail;rw[b7.o];simp only[dj.o];clear b7;have s:=a.o.nth 0 rfl;go_fit (Qmq V s);rintro e w1 ⟨rfl,D⟩;clear s;have f:=Hi (a.o.below D);clear a;have a:=f;clear f;clear D;have d:=a.o.nth 3 rfl;obtain⟨F,x1,x2,-⟩:=zc d;have I:=Nat.ne_of_gt d.lt;clear d;have ak:=a.o.nth 1 rfl;have Q:=a.o.nth 2 rfl;have b9:=Hi (Qsk a1 a2 a3 c1 c2 c3 A z hs w1 ak Q.j Q.b Q.h n1 n2 n3);clear ak Q
 go_wp2_with fail;go_fit b9.o;rintro e w2 ⟨g1,g2,g3,rfl,r1,r2,r3,D⟩;clear b9 F x1 x2 I;have f:=Hi (a.o.below D);clear a;have a:=f;clear f;have f:=Hi (a.o.add (P:=(fun v=>Lent v g1 g2 g3 A z hs)) ⟨r1,r2,r3⟩ (Lent.stay _ _ _ _ _ _));clear a;have a:=f;clear f;clear r1 r2 r3 D;obtain⟨bo,B⟩:∃b,w2.heap.size=b:=⟨_,rfl⟩;obtain⟨V2,ba⟩:∃V,w2.alloc (.cells #[.slice (some ⟨g1,0,none⟩) A.length (A.length+3),.slice (some ⟨g2,0,none⟩) z.length (z.length+3),.slice (some ⟨g3,0,none⟩) hs.length (hs.length+3)] 26)=V:=⟨_,rfl⟩;have G:Bl w2 V2:=by rw[<-ba];exact(Below.refl _ _).alloc lZ _
 have l:SB V2 bo 26 #[.slice (some ⟨g1,0,none⟩) A.length (A.length+3),.slice (some ⟨g2,0,none⟩) z.length (z.length+3),.slice (some ⟨g3,0,none⟩) hs.length (hs.length+3)]:=by rw[<-ba,<-B];exact SB.new w2 _ _
 have f:=Hi (a.o.below G);clear a;have a:=f;clear f;have f:=Hi (a.o.add (P:=(fun v=>SB v bo 26 #[.slice (some ⟨g1,0,none⟩) A.length (A.length+3),.slice (some ⟨g2,0,none⟩) z.length (z.length+3),.slice (some ⟨g3,0,none⟩) hs.length (hs.length+3)])) l (SB.stay _ _ _));clear a;have a:=f;clear f;obtain⟨dk,cc⟩:=Ia B ba;clear G l B ba;have d:=a.o.nth 3 rfl;obtain⟨F,x1,x2,-⟩:=zc d;have I:=Nat.ne_of_gt d.lt;clear d;rw[<-cc.o] at F x1 x2;have s:=a.o.nth 0 rfl;have Q:=a.o.nth 2 rfl;have cd:=Hi (Qtz a1 a2 a3 c1 c2 c3 A z hs V2 s Q HZ.o);clear s Q;go_wp2_with fail;rw[cc.o];simp only[dk.o];go_fit cd.o;rintro e w3 ⟨c,J,rfl,bm,D⟩
 clear cd F x1 x2 I;have f:=Hi (a.o.below D);clear a;have a:=f;clear f;clear D;obtain⟨vb,vh,P,hR⟩:=Qn2 HZ.o bm hT;obtain⟨bn,HR⟩:=Ia bm hR;clear bm hR;obtain⟨b4,bp⟩:∃b,w3.heap.size=b:=⟨_,rfl⟩;obtain⟨V3,bb⟩:∃V,w3.alloc (.cells #[.int .i64 c,.int .i64 J] 31)=V:=⟨_,rfl⟩;have G:Bl w3 V3:=by rw[<-bb];exact(Below.refl _ _).alloc lZ _
 have l:SB V3 b4 31 #[.int .i64 c,.int .i64 J]:=by rw[<-bb,<-bp];exact SB.new w3 _ _
 have f:=Hi (a.o.below G);clear a;have a:=f;clear f;have f:=Hi (a.o.add (P:=(fun v=>SB v b4 31 #[.int .i64 c,.int .i64 J])) l (SB.stay _ _ _));clear a;have a:=f;clear f;obtain⟨dl,cf⟩:=Ia bp bb;clear G l bp bb;have B:=a.o.nth 5 rfl;obtain⟨y0,y1,y2,-⟩:=zc B;have ny:=Nat.ne_of_gt B.lt;clear B;rw[<-cf.o] at y0 y1 y2;have s:=a.o.nth 0 rfl;have M:=a.o.nth 4 rfl;have W:=Hi (Qn3 (some ⟨g1,0,none⟩) (some ⟨g2,0,none⟩) (some ⟨g3,0,none⟩) (A.length+3) (z.length+3) (hs.length+3) V3 s M.row HZ.o bn.o HR.o);clear s M;go_wp2_with fail;rw[cf.o]
 simp only[dl.o];go_fit W.o;rintro e w4 ⟨r,m,y,rfl,cg,D⟩;clear W y0 y1 y2 ny;have f:=Hi (a.o.below D);clear a;have a:=f;clear f;clear D;have bq:=Hi cg;clear cg;obtain⟨b8,br⟩:∃b,w4.heap.size=b:=⟨_,rfl⟩;obtain⟨V4,bc⟩:∃V,w4.alloc (.cells #[.int .i64 c,.int .i64 J] 31)=V:=⟨_,rfl⟩;have G:Bl w4 V4:=by rw[<-bc];exact(Below.refl _ _).alloc lZ _
 have l:SB V4 b8 31 #[.int .i64 c,.int .i64 J]:=by rw[<-bc,<-br];exact SB.new w4 _ _
 have f:=Hi (a.o.below G);clear a;have a:=f;clear f;have f:=Hi (a.o.add (P:=(fun v=>SB v b8 31 #[.int .i64 c,.int .i64 J])) l (SB.stay _ _ _));clear a;have a:=f;clear f;obtain⟨dm,ch⟩:=Ia br bc;clear G l br bc;have B:=a.o.nth 5 rfl;obtain⟨y0,y1,y2,-⟩:=zc B;have ny:=Nat.ne_of_gt B.lt;clear B;rw[<-ch.o] at y0 y1 y2;have s:=a.o.nth 0 rfl;have M:=a.o.nth 4 rfl;have W:=Hi (Qn4 (some ⟨g1,0,none⟩) (some ⟨g2,0,none⟩) (some ⟨g3,0,none⟩) (A.length+3) (z.length+3) (hs.length+3) V4 s M.row HZ.o bn.o HR.o);clear s M;go_wp2_with fail;rw[ch.o]
 simp only[dm.o];go_fit W.o;rintro e w5 ⟨v,ps,xs,rfl,E,al,D⟩;obtain⟨sa,sc,hv,_⟩:=Grow.slice E.list;subst hv;clear W y0 y1 y2 ny;have f:=Hi (a.o.below D);clear a;have a:=f;clear f;clear D;have f:=Hi (a.o.add (P:=(fun v=>StrsAt v V4.heap.size z.length hs.length (.slice sa ps.length sc) ps xs)) E (StrsAt.stay _ _ _ _ _ _));clear a;have a:=f;clear f;obtain⟨bt,bu⟩:=Ia E.len al;clear E al;obtain⟨ci,am⟩:∃b,w5.heap.size=b:=⟨_,rfl⟩;obtain⟨V5,bd⟩:∃V,w5.alloc (.cells #[.int .i64 c,.int .i64 J] 31)=V:=⟨_,rfl⟩;have G:Bl w5 V5:=by rw[<-bd];exact(Below.refl _ _).alloc lZ _
 have l:SB V5 ci 31 #[.int .i64 c,.int .i64 J]:=by rw[<-bd,<-am];exact SB.new w5 _ _
 have f:=Hi (a.o.below G);clear a;have a:=f;clear f;have f:=Hi (a.o.add (P:=(fun v=>SB v ci 31 #[.int .i64 c,.int .i64 J])) l (SB.stay _ _ _));clear a;have a:=f;clear f;obtain⟨cj,ck⟩:=Ia am bd;clear G l am bd;have B:=a.o.nth 5 rfl;obtain⟨y0,y1,y2,-⟩:=zc B;have ny:=Nat.ne_of_gt B.lt;clear B;rw[<-ck.o] at y0 y1 y2;have s:=a.o.nth 0 rfl;have M:=a.o.nth 4 rfl;have W:=Hi (Qn5 (some ⟨g1,0,none⟩) (some ⟨g2,0,none⟩) (some ⟨g3,0,none⟩) (A.length+3) (z.length+3) (hs.length+3) V5 s M.row HZ.o bn.o HR.o);clear s M;go_wp2_with fail;rw[ck.o]
 simp only[cj.o];go_fit W.o;rintro e w6 ⟨v,ms,ys,rfl,E,al,D⟩;obtain⟨ma,mc,hv,_⟩:=Grow.slice E.list;subst hv;clear W y0 y1 y2 ny;have f:=Hi (a.o.below D);clear a;have a:=f;clear f;clear D;have f:=Hi (a.o.add (P:=(fun v=>MotsAt v V5.heap.size A.length (.slice ma ms.length mc) ms ys)) E (MotsAt.stay _ _ _ _ _));clear a;have a:=f;clear f;obtain⟨bv,bw⟩:=Ia E.len al;clear E al;obtain⟨cl,an⟩:∃b,w6.heap.size=b:=⟨_,rfl⟩;obtain⟨V6,be⟩:∃V,w6.alloc (.cells #[.int .i64 c,.int .i64 J] 31)=V:=⟨_,rfl⟩;have G:Bl w6 V6:=by rw[<-be];exact(Below.refl _ _).alloc lZ _
 have l:SB V6 cl 31 #[.int .i64 c,.int .i64 J]:=by rw[<-be,<-an];exact SB.new w6 _ _
 have f:=Hi (a.o.below G);clear a;have a:=f;clear f;have f:=Hi (a.o.add (P:=(fun v=>SB v cl 31 #[.int .i64 c,.int .i64 J])) l (SB.stay _ _ _));clear a;have a:=f;clear f;obtain⟨cm,cn⟩:=Ia an be;clear G l an be;have B:=a.o.nth 5 rfl;obtain⟨y0,y1,y2,-⟩:=zc B;have ny:=Nat.ne_of_gt B.lt;clear B;have d:=a.o.nth 3 rfl;obtain⟨F,x1,x2,-⟩:=zc d;have I:=Nat.ne_of_gt d.lt;clear d
 obtain⟨u0,u1,-⟩:=zc (a.o.nth 6 rfl);obtain⟨u2,u3,-⟩:=zc (a.o.nth 7 rfl);obtain⟨u4,u5,-⟩:=zc (a.o.nth 9 rfl);rw[<-cn.o] at F x1 x2 y0 y1 y2 u0 u1 u2 u3 u4 u5;have ak:=a.o.nth 1 rfl;have M:=a.o.nth 4 rfl;have Q:=a.o.nth 2 rfl;have cp:=Hi (Qpu g1 g2 g3 a1 a2 a3 c1 c2 c3 A z hs V6 ak M Q n1 n2 n3);clear ak M Q;go_wp2_with fail;rw[cn.o];simp only[cm.o];go_fit cp.o;rintro e w7 ⟨rfl,D⟩;clear cp F x1 x2 y0 y1 y2 I ny u0 u1 u2 u3 u4 u5;have f:=Hi (a.o.below D);clear a;have a:=f;clear f;clear D
 obtain⟨u0,-⟩:=zc (a.o.nth 6 rfl);by_cases hc:c=0
 rotate_left 1
 .
  obtain⟨rfl,rfl,rfl⟩:=bq.o.1 hc;have e1:=bu.o.1 hc;have e2:=bw.o.1 hc;have l1:=bt.o;have l2:=bv.o;rw[e1,List.length_nil] at l1;rw[e2,List.length_nil] at l2;rw[l1,l2];have e0:(c != 0)=true:=by simpa using hc
  clear hc e1 e2 l1 l2;go_wp2;go_ret;exact⟨rfl,a.o.base⟩
 .
  subst hc;obtain⟨dn,hr⟩:=HR.o rfl;subst dn;have m1:=hr.fv.j;have m2:=hr.fv.b;have m3:=hr.fv.h;have H:=Hi hr;obtain⟨n,hn⟩:=nm (z.length+hs.length);obtain⟨N,hN⟩:=nm (2*A.length);have en:((z.length:Int)+(hs.length:Int))=(n:Int):=by omega
  have eN:IntKind.i64.wrap (2*(A.length:Int))=(N:Int):=by rw[wrap_i64 _ (by omega) (by omega)];omega
  have dz:n<=44:=by omega
  have bj:N<=20:=by omega
  obtain⟨af,X,cq⟩:=Ib hn hN en;have s:=a.o.nth 0 rfl;have cr:O (4<w7.heap.size):=Hi (by
   obtain⟨q,hq⟩:=s.most
   exact World.block_lt_of_cell? _ _ hq)
  clear hr hn hN s en;have d:=a.o.nth 3 rfl;obtain⟨F,x1,x2,-⟩:=zc d;have I:=Nat.ne_of_gt d.lt;clear d;clear I;go_upto_region 12 with fail
  clear u0;go_cut [13] (fun dp wc=>∃(L:List Vec) (hh:Vy) (xa:Vx) (xc lx:Nat) (ks:List KR),dp=.slice xa lx xc/\ks.length=lx/\Pl n 20 (balRows A.length vb z.length vh) n L hh/\KerAt wc w7.heap.size n 738197945 (.slice xa lx xc) ks ((freeTo hh n).map fun c=>nullF c L hh hh.length)/\Bl w7 wc)
  case first=>
   have R:O (Bl w7 w7):=Hi bR;have ao:=a.o.nth 3 rfl;have cs:=Hi ao;clear ao;go_region_held3 (fun v=>v.cell? ⟨B0,0,none⟩=some (.slice a1 A.length c1)/\v.cell? ⟨B0,1,none⟩=some (.slice a2 z.length c2)/\v.cell? ⟨B0,2,none⟩=some (.slice a3 hs.length c3)) ((first|(simp [*];done)|go_keep)) (first
    |(
     go_at_call 13;apply cM;apply Qnx a1 a2 a3 c1 c2 c3 738197945 A z hs vb vh
     first|exact(a.o.nth 0 rfl).most|exact(a.o.drew.nth 0 rfl).most
     first|exact a.o.nth 2 rfl|exact a.o.drew.nth 2 rfl
     exact H.o.fv;exact H.o.way;exact Nat.le_refl _;rintro e wb ⟨N',g,vs,ap,ct,rfl,aq,ar,ag,i⟩;rw[X.o] at ct;have dq:=ct.symm;subst dq;rw[af.o] at ag;obtain⟨f,Y,bf,bg⟩:=Ic (((by first|exact a.o|exact a.o.drew:PBag w _ _).below i).add (P:=fun v=>GR v w7.heap.size g vs ap) (aq.mono R.o.size) (GR.stay _ _ _ _)) (bTr R.o (by first|exact i|exact(Below.refl _ _).drew.trans i)) ar ag;clear a R aq ar ag i F x1 x2;have a:=f;have R:=Y;clear f Y;have d:=a.o.nth 3 rfl;obtain⟨F,x1,x2,-⟩:=zc d;have I:=Nat.ne_of_gt d.lt;clear d;clear I
     skip)
    |(
     go_at_call 14;apply cM;apply Qep a1 a2 a3 c1 c2 c3 A.length z.length hs.length;exact m2;exact m3;rintro e we ⟨rfl,i⟩;rw[cq.o];obtain⟨f,Y⟩:=Ia ((by first|exact a.o|exact a.o.drew:PBag w _ _).below i) (bTr R.o (by first|exact i|exact(Below.refl _ _).drew.trans i));clear a R i F x1 x2;have a:=f;have R:=Y;clear f Y;have d:=a.o.nth 3 rfl;obtain⟨F,x1,x2,-⟩:=zc d;have I:=Nat.ne_of_gt d.lt;clear d;clear I
     skip)
    |(
     go_at_call 12;apply cM;apply Qh1 w7.heap.size g n 738197945 P 8388672 N vs ap (balM vb z.length vh)
     first|exact(a.o.nth 0 rfl).most|exact(a.o.drew.nth 0 rfl).most
     exact cr.o;exact R.o.size
     first|exact a.o.nth 12 rfl|exact a.o.drew.nth 12 rfl
     exact bf.o;exact bg.o;exact fun r c hc=>Qcw H.o.fv.lb H.o.fv.lh r c (by have:=af.o;omega)
     exact H.o.fp.pos;exact H.o.fp.le;exact fun r j=>H.o.fp.at r j
     decide;decide;exact Or.inl bj;omega;omega;rintro e wk ⟨L,hh,v,ks,rfl,Z,C,i⟩;obtain⟨xa,xc,hv,_⟩:=Grow.slice C.list;subst hv;obtain⟨au,dr,av⟩:=Ib (C.mono R.o.size) Z (R.o.trans (by first|exact i|exact(Below.refl _ _).drew.trans i));clear C Z i F x1 x2;have ao:=cs.o.below av.o cs.o.lt;obtain⟨F,x1,x2,-⟩:=zc ao;clear ao
     skip)
    |fail)
   all_goals
    clear F x1 x2;go_wp2_with fail;go_meet
    case rel=>
     refine⟨L,hh,xa,xc,ks.length,ks,rfl,rfl,?_,au.o,av.o⟩;have:=dr.o;rw[<-X.o] at this;exact this
  case rest=>
  obtain⟨w8,rfl⟩:∃w8,w8=wc:=⟨wc,rfl⟩;obtain⟨L1,h1,xa,xc,lx,ks,rfl,cu,Z,C,D⟩:=hcut;clear F x1 x2;have f:=Hi (a.o.below D);clear a;have a:=f;clear f;have f:=Hi (a.o.add (P:=(fun v=>KerAt v w7.heap.size n 738197945 (.slice xa lx xc) ks ((freeTo h1 n).map fun c=>nullF c L1 h1 h1.length))) C (KerAt.stay _ _ _ _ _ _));clear a;have a:=f;clear f;obtain⟨cv,cw,ds⟩:=Ib Z cu (Nat.lt_of_lt_of_le cr.o D.size);clear D cu Z C;have d:=a.o.nth 3 rfl;obtain⟨F,x1,x2,-⟩:=zc d;have I:=Nat.ne_of_gt d.lt;clear d;clear I;have ad:O (Bl w8 w8):=Hi bR;have cx:=a;go_wp2_with fail
  go_region_held3 (fun v=>v.cell? ⟨B0,0,none⟩=some (.slice a1 A.length c1)/\v.cell? ⟨B0,1,none⟩=some (.slice a2 z.length c2)/\v.cell? ⟨B0,2,none⟩=some (.slice a3 hs.length c3)) ((first|(simp [*];done)|go_keep)) (first
   |(
    go_at_call 15;apply cM;apply Qws a1 a2 a3 c1 c2 c3 738197945 A z hs vb vh
    first|exact(a.o.nth 0 rfl).most|exact(a.o.drew.nth 0 rfl).most
    first|exact a.o.nth 2 rfl|exact a.o.drew.nth 2 rfl
    exact H.o.fv;exact H.o.way;decide;rintro e wb ⟨R',g,vs,ap,cy,rfl,aq,ar,ag,i⟩;rw[af.o] at cy;have dt:=cy.symm;subst dt;rw[X.o] at ag;obtain⟨f,Y,bf,bg⟩:=Ic (((by first|exact a.o|exact a.o.drew:PBag w _ _).below i).add (P:=fun v=>GR v w8.heap.size g vs ap) (aq.mono ad.o.size) (GR.stay _ _ _ _)) (bTr ad.o (by first|exact i|exact(Below.refl _ _).drew.trans i)) ar ag;clear a ad aq ar ag i F x1 x2;have a:=f;have ad:=Y;clear f Y;have d:=a.o.nth 3 rfl;obtain⟨F,x1,x2,-⟩:=zc d;have I:=Nat.ne_of_gt d.lt;clear d;clear I
    skip)
   |(
    go_at_call 12;apply cM;apply Qh1 w8.heap.size g N 738197945 P 8388672 n vs ap (strM A.length vb z.length vh)
    first|exact(a.o.nth 0 rfl).most|exact(a.o.drew.nth 0 rfl).most
    exact ds.o;exact ad.o.size
    first|exact a.o.nth 13 rfl|exact a.o.drew.nth 13 rfl
    exact bf.o;exact bg.o;exact fun r c hc=>Qwr (by have:=X.o;omega)
    exact H.o.fp.pos;exact H.o.fp.le;exact fun r j=>Qwp H.o.fp r j (Wh.zero _ _)
    decide;decide;exact Or.inr bj;omega;omega;rintro e w9 ⟨L2,h2,v,kt,rfl,Z,C,i⟩;obtain⟨ya,yc,hv,_⟩:=Grow.slice C.list;subst hv;obtain⟨au,cz,av⟩:=Ib (C.mono ad.o.size) Z (ad.o.trans (by first|exact i|exact(Below.refl _ _).drew.trans i));clear C Z i a F x1 x2;have a:=Hi (cx.o.below av.o);have d:=a.o.nth 3 rfl;obtain⟨F,x1,x2,-⟩:=zc d;have I:=Nat.ne_of_gt d.lt;clear d;clear I
    skip)
   |fail)
  clear cx ad bf bg F x1 x2;have f:=Hi (a.o.add (P:=(fun v=>KerAt v w8.heap.size N 738197945 (.slice ya kt.length yc) kt ((freeTo h2 N).map fun c=>nullF c L2 h2 h2.length))) au.o (KerAt.stay _ _ _ _ _ _));clear a;have a:=f;clear f;obtain⟨rk,f1,f2,c0,c4,c5,c6,du,c7,c8,c9⟩:=Qn7 H.o af.o X.o bq.o bu.o bw.o cv.o cz.o;have bx:=bt.o;have bh:=bv.o;have da:=cw.o;have q1:=a.o.nth 12 rfl;have bk:=q1.len;have db:=au.o.len;clear q1;obtain⟨ly,bi⟩:=nm kt.length;have e1:lx=ps.length:=by
   rw[<-da,bk,bx,c0,List.length_map,List.length_map]
  have e2:ly=ms.length:=by
   rw[<-bi,db,bh,c4,List.length_map,List.length_map]
  rw[bi] at a ⊢;subst e1 e2;rw[<-bx] at c7 c8;rw[<-bh] at c9;subst du c8 c9 c0 c4;have er:IntKind.i64.wrap ((n:Int) - (ps.length:Int))=(rk:Int):=by rw[wrap_i64 _ (by omega) (by omega)];omega
  obtain⟨dv,dw,dx⟩:=Ib er c5 c6;have ea:ps.length<=n:=by omega
  have eb:ms.length<=N:=by
   rw[bh,List.length_map];exact Qdg _ _
  have ec:=Hi bi;clear bx bh da bk db c5 c6 c7 bi bt bv bq bu bw cv cz cw au av;have d:=a.o.nth 3 rfl;obtain⟨F,x1,x2,-⟩:=zc d;have I:=Nat.ne_of_gt d.lt;clear d;clear I;go_wp2_with fail;clear F x1 x2 er;go_fit (Qep a1 a2 a3 c1 c2 c3 A.length z.length hs.length w9 m2 m3);rintro e dc ⟨rfl,D⟩;rw[cq.o];have f:=Hi (a.o.below D);clear a;have a:=f;clear f;clear D;have er:=dv.o;go_wp2_with fail;clear er;obtain⟨wz,rfl⟩:∃wz,wz=dc:=⟨dc,rfl⟩;have dd:=a;clear a;go_loopw [129] (fun iv wr=>∃k:Nat,k<=ps.length/\iv=.int .i64 k/\Bl wz wr) (fun iv _=>ps.length - (intOf iv).toNat)
  case atStart=>exact⟨0,Nat.zero_le _,rfl,Below.refl _ _⟩
  case round=>
   obtain⟨k,hk,rfl,D⟩:=hrel;obtain⟨ai,a⟩:=Ia D (dd.o.below D);clear D;by_cases bz:k<ps.length
   .
    obtain⟨p,hp⟩:∃p,ps[k]?=some p:=⟨_,gE bz⟩;have E:=a.o.nth 8 rfl;have C:=a.o.nth 12 rfl;obtain⟨rr,x,hr,K,aw,ax⟩:=Qn8 E C dw.o af.o hp;obtain⟨ed,ee,e,ae,ay,_⟩:=Grow.slice E.list;injection e with e1 _ e2
    subst e1 e2;obtain⟨sb,so,rfl,l,hd⟩:=ARow.at (sz:=2) (fun _=>rfl) (by decide) (⟨ae,ay⟩:ARow (SP.cells z.length hs.length) wr sa sc ps) hp;have d0:wr.cell? ⟨sb,so+k*2,none⟩=some (.slice (some ⟨p.g1,0,none⟩) z.length z.length):=hd 0 _ rfl;have d1:=hd 1 _ rfl;obtain⟨xb,xo,rfl,az,d2⟩:=(C.list.crow).cell k (rr.val n) (by rw[List.getElem?_map,hr];rfl);unfold KR.val at d2;have s:=a.o.nth 0 rfl;have b0:=Hi (fun u (hu:Bl wr u)=>Qxr (.slice a1 A.length c1) (.slice a3 hs.length c3) a2 c2 z.length rr.g n n 738197945 rr.ts u (s.below hu).most (K.below hu).row (fun t ht=>by
     obtain⟨j,hj⟩:=List.getElem?_of_mem ht
     exact(K.q j t hj).2) (by decide) (by omega) K.len (by have:=af.o;omega) lZ rfl rfl)
    obtain⟨b3,b5,S,a0,de,a4,a5,a6⟩:=Ig K aw ax d0 d1 d2 l az;have q1:(k:Int)<(ps.length:Int):=by omega
    have d:=a.o.nth 3 rfl;obtain⟨F,x1,x2,-⟩:=zc d;have I:=Nat.ne_of_gt d.lt;clear d;clear I hp E C hr K aw ax ae ay hd s l az;go_wp2_with fail;go_region_held3 (fun v=>v.cell? ⟨B0,0,none⟩=some (.slice a1 A.length c1)/\v.cell? ⟨B0,1,none⟩=some (.slice a2 z.length c2)/\v.cell? ⟨B0,2,none⟩=some (.slice a3 hs.length c3)/\v.cell? ⟨sb,so+k*2,none⟩=some (.slice (some ⟨p.g1,0,none⟩) z.length z.length)/\v.cell? ⟨sb,so+k*2+1,none⟩=some (.slice (some ⟨p.g2,0,none⟩) hs.length hs.length)/\v.cell? ⟨xb,xo+k,none⟩=some (.slice (some ⟨rr.g,0,none⟩) n n)) ((first|(simp [*];done)|go_keep)) (first
     |(
      go_at_call 17;apply cM;apply b0.o;(focus(repeat(first|exact Below.refl _ _|apply Qaq|apply Qar)));rintro e wn ⟨v1,v2,tx,ty,rfl,t1,t2,df,dg,q4,q5,i⟩;have T:Bl wr wn:=by first|exact i|exact(Below.refl _ _).drew.trans i
      obtain⟨ex,ey⟩:=Qn9 b3.o af.o b5.o S.o df dg q4 q5;subst ex ey;obtain⟨aa,ca,a7,ta⟩:=TG.tlst t1;obtain⟨ab,cb,hv2,tb⟩:=TG.tlst t2;rw[S.o.l1] at a7;rw[S.o.l2] at hv2;subst a7 hv2;obtain⟨b6,ah,a8⟩:=Ib (fun u (hu:Bl wn u)=>Qod (some ⟨p.g1,0,none⟩) (some ⟨p.g2,0,none⟩) aa ab z.length hs.length ca cb z.length hs.length p.x p.y u ((S.o.b1.texts.below T).below hu) ((S.o.b2.texts.below T).below hu) (ta.below hu) (tb.below hu) S.o.l1 S.o.l2 (by omega) (by omega)) T (a.o.below T);clear t1 t2 df dg q4 q5 i T ta tb F x1 x2 d0 d1 d2 a;have a:=a8;clear a8;have d:=a.o.nth 3 rfl;obtain⟨F,x1,x2,-⟩:=zc d
      have I:=Nat.ne_of_gt d.lt;clear d;clear I;obtain⟨d0,d1⟩:=Ja ah.o a5.o a0.o de.o;have d2:=ce ah.o a6.o a4.o
      skip)
     |(
      go_at_call 16;apply cM;apply b6.o;(focus(repeat(first|exact Below.refl _ _|apply Qaq|apply Qar)));rintro e wm ⟨rfl,i⟩;have aj:Bl wn wm:=by first|exact i|exact(Below.refl _ _).drew.trans i
      obtain⟨U,a8⟩:=Ia (bTr ah.o aj) (a.o.below aj);clear i aj F x1 x2 d0 d1 d2 a;have a:=a8;clear a8;have d:=a.o.nth 3 rfl;obtain⟨F,x1,x2,-⟩:=zc d;have I:=Nat.ne_of_gt d.lt;clear d;clear I;obtain⟨d0,d1⟩:=Ja U.o a5.o a0.o de.o;have d2:=ce U.o a6.o a4.o
      skip)
     |fail)
    all_goals
     clear F x1 x2 d0 d1 d2;go_wp2;go_roundw
     case rel=>exact⟨k+1,by omega,by go_num,by first|exact bTr ai.o U.o|exact(bTr ai.o U.o).drew⟩
     case measure=>simp[intOf];omega
   .
    obtain rfl:k=ps.length:=by omega
    obtain⟨wy,rfl⟩:∃wy,wy=wr:=⟨wr,rfl⟩;have dy:=a;clear a dd ai;go_wp2_with fail;go_loopw [147] (fun iv wr=>∃k:Nat,k<=ms.length/\iv=.int .i64 k/\Bl wy wr) (fun iv _=>ms.length - (intOf iv).toNat)
    case atStart=>exact⟨0,Nat.zero_le _,rfl,Below.refl _ _⟩
    case round=>
     obtain⟨k,hk,rfl,D⟩:=hrel;obtain⟨ai,a⟩:=Ia D (dy.o.below D);clear D;by_cases bz:k<ms.length
     .
      obtain⟨p,hp⟩:∃p,ms[k]?=some p:=⟨_,gE bz⟩;have E:=a.o.nth 10 rfl;have C:=a.o.nth 13 rfl;obtain⟨rr,x,hr,K,aw,ax⟩:=Qoa E C dx.o X.o hp;obtain⟨sb,so,rfl,l,d0⟩:=(E.list.crow).cell k (p.val A.length) (by rw[List.getElem?_map,hp];rfl);obtain⟨xb,xo,rfl,az,d2⟩:=(C.list.crow).cell k (rr.val N) (by rw[List.getElem?_map,hr];rfl);unfold KR.val at d2;unfold SL.val at d0;have s:=a.o.nth 0 rfl;have b0:=Hi (fun u (hu:Bl wr u)=>Qof (some ⟨rr.g,0,none⟩) N A.length 738197945 N rr.ts u (s.below hu).most (K.below hu).row (fun t ht=>by
       obtain⟨j,hj⟩:=List.getElem?_of_mem ht
       exact(K.q j t hj).2) (by decide) (by rw[K.len];exact X.o.symm) (by omega) K.len)
      obtain⟨b3,b5,S,a0,a4,a5,a6⟩:=If K aw ax d0 d2 l az;have q1:(k:Int)<(ms.length:Int):=by omega
      clear hp E C hr K aw ax s l az;go_wp2_with fail;go_region_held3 (fun v=>v.cell? ⟨sb,so+k,none⟩=some (.slice (some ⟨p.g,0,none⟩) A.length A.length)/\v.cell? ⟨xb,xo+k,none⟩=some (.slice (some ⟨rr.g,0,none⟩) N N)) ((first|(simp [*];done)|go_keep)) (first
       |(
        go_at_call 19;apply cM;apply b0.o;(focus(repeat(first|exact Below.refl _ _|apply Qaq|apply Qar)));rintro e wn ⟨v1,ss,rfl,dh,a9,di,i⟩;have T:Bl wr wn:=by first|exact i|exact(Below.refl _ _).drew.trans i
        have ex:=Qoc b3.o X.o b5.o S.o a9 di;subst ex;obtain⟨aa,ca,a7,ae,ay,_⟩:=Grow.slice dh;rw[a9] at a7;subst a7;have hA:ARow S2.cells wn aa ca p.ss:=⟨ae,ay⟩;have hB:=((S.o.below T).blk).arow rfl (Nat.le_of_eq a9);obtain⟨b6,ah⟩:=Ia (fun u (hu:Bl wn u)=>Qoe (some ⟨p.g,0,none⟩) aa A.length ca A.length p.ss u (hB.below hu) (hA.below hu) a9 (by omega)) T;clear dh a9 di i T ae ay hA hB d0 d2;have d0:=ce ah.o a5.o a0.o;have d2:=ce ah.o a6.o a4.o
        skip)
       |(
        go_at_call 18;apply cM;apply b6.o;(focus(repeat(first|exact Below.refl _ _|apply Qaq|apply Qar)));rintro e wm ⟨rfl,i⟩;have aj:Bl wn wm:=by first|exact i|exact(Below.refl _ _).drew.trans i
        have U:=Hi (bTr ah.o aj);clear i aj d0 d2;have d0:=ce U.o a5.o a0.o;have d2:=ce U.o a6.o a4.o
        skip)
       |fail)
      all_goals
       clear d0 d2;go_wp2;go_roundw
       case rel=>exact⟨k+1,by omega,by go_num,by first|exact bTr ai.o U.o|exact(bTr ai.o U.o).drew⟩
       case measure=>simp[intOf];omega
     .
      obtain rfl:k=ms.length:=by omega
      go_wp2;go_ret;exact⟨rfl,a.o.base⟩
section
open Go.ChangeShapes Go.WideShapes Go.ChangeAt Go.RowKit
namespace stillCounts
theorem Qu6(H:Type)(enc:TypeId × Value->H)(W:Vz)(g:Nat)(a:Vw)(l s:List (DataW H))(c:List MemPlace)
 (d:∀(j:Nat) t v,Tryz.f3.params[j]?=some t->a[j]?=some v->Value.okWide prog W .any g t v)
 (u:DataW.Whole enc prog Tryz.f3.params.toList Rows.stillCountsSpec.vars false W a.toList l s c) (hk:Rows.uptoSmall H (l++s)=true) (hG:Glob W) (B:Marks3 W):
 Calls prog 3 a W fun e m=>∃v,e=.returned v/\Rows.stillCountsSpec.post enc prog Tryz.f3 false true false false W a v m:=by
 have i:=u;obtain⟨p,q,k,C,rfl,D,E⟩:=u;have w:DataW.TrodAll enc prog W 0 (fun _=>true) true Tryz.f3.params.toList a.toList l p:=k;rw[Tryz.params3] at w d;obtain⟨F,d0,rfl,rfl,y⟩:=trodAll_one w;obtain⟨rfl,rfl⟩:=trodVars_none C;clear k;obtain⟨R,rfl,G⟩:=okWide_struct underlying26 (d 0 26 F rfl rfl);unfold Rows.uptoSmall at hk;have n:=of_decide_eq_true hk;rw[List.append_nil] at n;obtain⟨I,J,K,c1,c2,c3,z,L,hs,rfl,M,N,n1,O,P,Q⟩:=Qu5 (Nat.le_trans (Qgy (by simp)) n) y;have o:∀x∈ p++ [],x.block<W.heap.size:=fun x r=>i.lt x r
 have A:Rows.uptoBulk d0<=1048576:=Nat.le_trans (Qgy (by simp)) n;have S:=Qla (H:=H) z;refine(Qog I J K c1 c2 c3 z L hs W hG B M N n1 O P (by omega)).mono ?_;rintro e m ⟨rfl,f⟩;refine⟨_,rfl,[d0],[],p++ [],[],p++ [],[],i,trodAll_cons_mk (shut_bool underlying4 _) trodAll_mk0,?_,rfl,f.frame _,fun h=>by cases h⟩
 show DataW.TrodAll enc prog m 0 (fun b=>decide (b<W.heap.size)) true Tryz.f3.params.toList _ [d0] _
 rw[Tryz.params3];exact trodAll_cons_mk (Below.trod Qun Qu3 Qu4 y f (fun x r=>o x (by simp[r]))) trodAll_mk0
theorem glob{W:Vz}(b:laidMetH prog Rows.stillCountsUptoRow.laid W)(a:W.ShapedOpen prog):Glob W:=
 ⟨Quu a,Qut (Qbd (Qbd (show laidMet prog Rows.stillCountsUptoRow.laid W from b)))⟩
theorem mark{W:Vz}(a:laidMetH prog Rows.stillCountsUptoRow.laid W):Marks3 W:=
 Quy (Qbd (Qbd (Qbd (Qbd (show laidMet prog Rows.stillCountsUptoRow.laid W from a)))))
end stillCounts
end
namespace stillCounts
open Go.ChangeShapes Go.WideShapes Go.ChangeAt Go.RowKit
theorem Qu8(a:Os):laidMet prog Rows.stillCountsUptoRow.laid ((tabledF (World.holding prog a ⟨#[],#[],[]⟩)).forCall (fun _ _=>0) ⟨#[],#[.agg #[.slice none 0 0,.slice none 0 0,.slice none 0 0]],[]⟩).memory:=
 laidMet_of_run' 8 (by kernel_rfl) (by kernel_rfl)
theorem reads(a:Os){H:Type}(enc:TypeId × Value->H):∃places,DataW.whole enc prog ((tabledF (World.holding prog a ⟨#[],#[],[]⟩)).forCall (fun _ _=>0) ⟨#[],#[.agg #[.slice none 0 0,.slice none 0 0,.slice none 0 0]],[]⟩).memory Tryz.f3.params.toList Rows.stillCountsSpec.vars false #[Value.agg #[.slice none 0 0,.slice none 0 0,.slice none 0 0]].toList 8=some ([.agg [.nil,.nil,.nil]],[],places):=
 ⟨[],by kernel_rfl⟩
theorem Qu9(d:Os)(a:d.Started)(H:Type)(enc:TypeId × Value->H)(F:Stop.Interp):
 ReturnsInHanded {} Tryz.checked d 3 .any ((Rows.OpenSpec.upto Rows.stillCountsSpec).preRow enc prog Tryz.f3 Rows.stillCountsUptoRow.domain false Rows.stillCountsUptoRow.laid) (((Rows.OpenSpec.upto Rows.stillCountsSpec).at F).post enc prog Tryz.f3 false true false false):=by
 obtain⟨places,j⟩:=reads d enc;refine returnsInHanded_of_row (C:=Tryz.checked) (s:=Rows.OpenSpec.upto Rows.stillCountsSpec) own a (by kernel_rfl) func3
  (witness_row_at (enc:=enc) (C:=Tryz.checked) false (tabledF (World.holding prog d ⟨#[],#[],[]⟩)) #[.agg #[.slice none 0 0,.slice none 0 0,.slice none 0 0]] rfl (by kernel_rfl) (by kernel_rfl) (by kernel_rfl)
    (OpenSpec.preRow_of_cond 8 j (by kernel_rfl) (fun k hk=>by cases hk;kernel_rfl) (by kernel_rfl) (Qu8 d))) ?_
 intro W e f l m b g n _ c _ i h _;exact Qu6 H enc W e f l m b g n (c _ rfl) (glob i h) (mark i)
end stillCounts
namespace stillCounts
open Go.ChangeShapes Go.WideShapes Go.ChangeAt Go.RowKit
theorem Qu7:joinedFacts prog 3 Tryz.f3 (Rows.OpenSpec.upto Rows.stillCountsSpec).bare Rows.stillCountsUptoRow=true:=by
 unfold joinedFacts;simp only[Bool.and_eq_true]
 repeat' with_reducible apply And.intro
 all_goals (as_aux_lemma=>kernel_rfl)
theorem named:prog.funcNamed Rows.stillCountsUptoRow.func=some 3:=by kernel_rfl
theorem said:Rows.StillCountsUptoSaid:=
 OpenClaim.holds_of_cond 3 Tryz.f3 rfl rfl rfl rfl rfl rfl rfl ⟨rfl,rfl,rfl,rfl,rfl⟩ rfl rfl rfl rfl rfl named func3 Qu7
  (of_decide_eq_true (by kernel_rfl)) (by unfold Func.isWrapper;first|(rw [if_pos (by decide +kernel)];kernel_rfl)|(rw [if_neg (by decide +kernel)];exact⟨rfl,rfl⟩))
  (fun b a H enc _ F=>by rw[OpenClaim.pre_eq_preRow];exact Qu9 b a H enc F)
theorem plain(f:FuncId)(a:Func)(d:Tryz.pinned.checked.prog.funcNamed "rafter/rafterlaw.StillCounts" =some f)(b:Tryz.pinned.checked.prog.funcs[f]?=some a):
 false=Tryz.pinned.checked.prog.looks []/\∀(j:Nat) t,a.params[j]?=some t->Tryz.pinned.checked.prog.wantsStandIn t=false:=by
 obtain rfl:f=3:=Option.some.inj ((show prog.funcNamed "rafter/rafterlaw.StillCounts" =some 3 by kernel_rfl).symm.trans d) |>.symm;obtain rfl:a=Tryz.f3:=(Option.some.inj (func3.symm.trans b)).symm;refine⟨by kernel_rfl,fun j t c=>?_⟩;rw[Tryz.params3] at c;have:=Array.mem_of_getElem? c;simp only[List.mem_toArray,List.mem_cons,List.not_mem_nil,or_false] at this;subst this;exact(show prog.wantsStandIn 26=false by kernel_rfl)
end stillCounts
theorem stillCounts_upto:Rows.StillCountsUptoCardSaid:=
 Claim7.holds_tied_plain_at .later [] _ _ _ _ stillCounts.said (fun _ h=>by cases h) (by kernel_rfl) (fun _ h=>by cases h) stillCountsUpto_row_tie rfl ⟨rfl,rfl⟩ (by kernel_rfl) rfl stillCounts.plain (by kernel_rfl)
end Go.Proofs.YtppkmifkpjkgpaaGreatDoor
