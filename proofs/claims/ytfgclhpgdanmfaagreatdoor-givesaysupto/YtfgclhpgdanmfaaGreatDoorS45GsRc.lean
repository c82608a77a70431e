/- For every world that holds the tables, and every frame and list of loads and texts of bulk at most 1048576: GiveSays answers true: the statement and its card. -/
import Derived.Test.YtfgclhpgdanmfaaGreatDoorS44GsK
import Derived.Test.YtfgclhpgdanmfaaGreatDoorCards
import Derived.Test.YtfgclhpgdanmfaaGreatDoorTie
import Derived.Deep.DeepHandedRow
namespace Go.Proofs.YtfgclhpgdanmfaaGreatDoor
set_option linter.defProp false
open Go.RowKit
open Go.Proofs.Tryz
set_option linter.unusedSimpArgs false
set_option linter.unusedVariables false
set_option maxHeartbeats 8000000
set_option maxRecDepth 1000000
variable{B c n:Nat}{a:Vx}{w:Vz}{v:Ac}
abbrev oJ:ByteArray:=⟨#[109,97,114,107]⟩
def Lm(a:Vx)(c:Nat)(l:Vt):ue (fun w=>eO tc w a c l):=⟨fun _ _ hb h=>h.below hb⟩
def Wk(s:Vs)(u:Ac)(h:u∈ tc s):¬jy u:=by simp only[tc,aY,dI,ji]at h;rcases h with rfl;exact GX _
def oR(g1 g2 g3 gl b8 b9:Nat)(js:Ad)(bs:Ap)(hs:Ak)(ls:AE)(w3 wc:Vz):Prop:=
 ∃(c at_:Int)(p0 p1 p2:Vx)(q0 q1 q2:Nat) (ss:Ad) (x y:Vt),SB wc b8 41 #[.int .i64 c,.int .i64 at_]/\SB wc b9 47 #[.slice p0 ss.length q0,.slice p1 x.length q1,.slice p2 y.length q2]/\eO S2.cells wc p0 q0 ss/\nz wc p1 x/\nz wc p2 y/\ss.length<=1000/\x.length<=1000/\y.length<=1000/\Below w3.heap.size w3 wc/\
  ∀u,Below w3.heap.size w3 u->Calls prog 13 #[.agg #[.slice (some ⟨g1,0,none⟩) js.length (js.length+3),.slice (some ⟨g2,0,none⟩) bs.length (bs.length+3),.slice (some ⟨g3,0,none⟩) hs.length (hs.length+3)],.slice (some ⟨gl,0,none⟩) ls.length (ls.length+3)] u (nH c at_ ss x y u)
def OH(w:Vz):eO S2.cells w none 0 []:=⟨aV _,⟨fun j u a=>by simp at a⟩⟩
def oR.Ga{m o q a:Nat}{h:Ad}{i:Ap}{j:Ak}{k:AE}{d g:Vz}{c b r s:Int}(l:d.heap.size=a)(t:SB g a 41 #[.int .i64 r,.int .i64 s])(v:SB g (a+1) 47 #[.slice none 0 0,.slice none 0 0,.slice none 0 0])(hb:Bl d g)(w:∀u,Below d.heap.size d u->Calls prog 13 #[.agg #[.slice (some ⟨m,0,none⟩) h.length (h.length+3),.slice (some ⟨n,0,none⟩) i.length (i.length+3),.slice (some ⟨o,0,none⟩) j.length (j.length+3)],.slice (some ⟨q,0,none⟩) k.length (k.length+3)] u (nH c b [] [] [] u)):
 oR m n o q a (a+1) h i j k d ((g.setCell ⟨a,0,none⟩ (.int .i64 c)).setCell ⟨a,1,none⟩ (.int .i64 b)):=by
 have e:a+1≠a:=oO;have f:d.heap.size<=a:=cO l;exact⟨c,b,none,none,none,0,0,0,[],[],[],by simpa using (t.set 0 (.int .i64 c)).set 1 (.int .i64 b),(v.other e _ _).other e _ _,OH _,IM _,IM _,dD,dD,dD,(hb.setCell (p:=⟨a,0,none⟩) f _).setCell (p:=⟨a,1,none⟩) f _,w⟩
def SG.other{b i:Nat}{t:Vr}{C:Vw}{x:Ac}{a:Ad}(h:SG w B v a)(d:SB w b t C)(e:34≠t):SG (w.setCell ⟨b,i,none⟩ x) B v a:=
 Grow.keep h fun g f=>by obtain⟨D,c,_⟩:=Grow.sb h f;exact((cX b w).setCell i x).block g c.lt (c.unlike d e)
def SG.tL{b:Ad}(h:SG w B (.slice a n c) b):eO S2.cells w a c b:=by
 obtain⟨j,k,e,d,f,_⟩:=qt h;injection e with g _ i
 subst g i;exact⟨d,f⟩
def oR.moved{E F G H g h j:Nat}{o q r:Vx}{t:Ad}{v:Ap}{w:Ak}{z:AE}{k l:Vz}{e:Ad}{x y:Vt}(I:k.heap.size=c)(J:SB l c 41 #[.int .i64 0,.int .i64 0])(s:SB l (c+1) 47 #[.slice none 0 0,.slice none 0 0,.slice none 0 0])(hb:Bl k l)(t0:SG l B (.slice o e.length g) e)(t1:TG l B (.slice q x.length h) x)(t2:TG l B (.slice r y.length j) y)(A:e.length<=1000)(K:x.length<=1000)(L:y.length<=1000)(M:∀u,Below k.heap.size k u->Calls prog 13 #[.agg #[.slice (some ⟨E,0,none⟩) t.length (t.length+3),.slice (some ⟨F,0,none⟩) v.length (v.length+3),.slice (some ⟨G,0,none⟩) w.length (w.length+3)],.slice (some ⟨H,0,none⟩) z.length (z.length+3)] u (nH 0 0 e x y u)):
 oR E F G H c (c+1) t v w z k (((l.setCell ⟨c+1,0,none⟩ (.slice o e.length g)).setCell ⟨c+1,1,none⟩ (.slice q x.length h)).setCell ⟨c+1,2,none⟩ (.slice r y.length j)):=by
 have m:c≠c+1:=oO;have n:k.heap.size<=c+1:=oO;have f:=s.set 0 (.slice o e.length g);have d:=f.set 1 (.slice q x.length h);have N:=SG.tL (SG.other (i:=2) (x:=.slice r y.length j) (SG.other (i:=1) (x:=.slice q x.length h) (SG.other (i:=0) (x:=.slice o e.length g) t0 s dD) f dD) d dD);have O:=vA (i:=2) (x:=.slice r y.length j) (vA (i:=1) (x:=.slice q x.length h) (vA (i:=0) (x:=.slice o e.length g) t1 s dD) f dD) d dD;have P:=vA (i:=2) (x:=.slice r y.length j) (vA (i:=1) (x:=.slice q x.length h) (vA (i:=0) (x:=.slice o e.length g) t2 s dD) f dD) d dD;obtain⟨a,ca,C,Q⟩:=TG.uv O;obtain⟨b,S,D,R⟩:=TG.uv P;injection C with C _ _
 injection D with D _ _
 subst C D;exact⟨0,0,_,_,_,g,h,j,e,x,y,((J.other m _ _).other m _ _).other m _ _,by simpa using d.set 2 (.slice _ y.length j),N,Q,R,A,K,L,((hb.setCell (p:=⟨c+1,0,none⟩) n _).setCell (p:=⟨c+1,1,none⟩) n _).setCell (p:=⟨c+1,2,none⟩) n _,M⟩
def wg(B n:Nat)(x:cW):Fact:=fun v w=>∃(a:Vx)(c:Nat)(ss:Ad),v=.slice a ss.length c/\SG w B v ss/\ss.length=n/\mQ x ss
def wg.eL(B n:Nat)(x:cW):mP (wg B n x):=fun _ _ _ hb ⟨a,c,b,e,h,l,t⟩=>⟨a,c,b,e,kA h hb,l,t⟩
def ud(B n m:Nat)(x y:cW):Fact:=fun v w=>∃(a b:Vx)(c d:Nat)(p q:Vt),v=.agg #[.slice a p.length c,.slice b q.length d]/\TG w B (.slice a p.length c) p/\TG w B (.slice b q.length d) q/\mJ n x p/\mJ m y q
def ud.eL(B n m:Nat)(x y:cW):mP (ud B n m x y):=fun _ _ _ hb ⟨a,b,c,d,p,q,e,h,k,t⟩=>⟨a,b,c,d,p,q,e,kA h hb,kA k hb,t⟩
def B2.F6{w':Vz}(h:B2 w B v n)(hk:∀b t C,SB w b t C->t≠34->SB w' b t C):B2 w' B v n:=by
 rcases h with h|⟨g,C,a,c,d,e⟩
 . exact .inl h
 . exact .inr ⟨g,C,a,c,hk _ _ _ d dD,e⟩
def OG{l:Vt}(h:eO tc w a c l):mA w a (iq l):=by
 have e:∀b:Vt,b.flatMap tc=iq b:=fun b=>by
  induction b with
  |nil=>rfl
  |cons s l f=> rw[fJ,f];rfl
 have d:=h.row;rw[e]at d;exact d
def BH(n:Nat)(x:cW):Fact:=fun v w=>∃(a:Vx)(c:Nat)(ts:Am),v=.slice a ts.length c/\lk w a ts/\ts.length=n/\∀(i:Nat)(t:RT),ts[i]?=some t->t.2.1=x i/\t.2.2<=4194305
def BH.eL(n:Nat)(x:cW):mP (BH n x):=fun _ _ _ hb ⟨a,c,b,e,h,k⟩=>⟨a,c,b,e,h.below hb,k⟩
def CS(B n m l:Nat)(x y z:cW):Fact:=fun v w=>∃(p0 p1 p2:Vx)(q0 q1 q2:Nat)(ss:Ad) (p q:Vt),v=.agg #[.slice p0 ss.length q0,.slice p1 p.length q1,.slice p2 q.length q2]/\SG w B (.slice p0 ss.length q0) ss/\TG w B (.slice p1 p.length q1) p/\TG w B (.slice p2 q.length q2) q/\ss.length=n/\mQ x ss/\mJ m y p/\mJ l z q
def CS.eL(B n m l:Nat)(x y z:cW):mP (CS B n m l x y z):=fun _ _ _ hb ⟨a,b,c,d,f,g,h,p,q,e,i,j,k,t⟩=>⟨a,b,c,d,f,g,h,p,q,e,kA i hb,kA j hb,kA k hb,t⟩
def Wj(a1 a2 a3 al aq:Vx)(c1 c2 c3 cl cq:Nat)(B:Ad)(n:Ap)(m:Ak)(ls:AE)(vs:Ai)(qs:Vt)(tv:cW)(w:Vz)(hg:jq w)(hm:kS w)(hk:ug w)(hf:ja w a1 a2 a3 c1 c2 c3 B n m)(hz:jL B n m)(hl:eO L3.cells w al cl ls)(hv:LVal ls vs)(hq:eO tc w aq cq qs)(dz:∀(i:Nat)(s:Vs),qs[i]?=some s->il s.data.toList (tv i)/\s.size<=1048576)(n1:B.length<=1048576)(n2:n.length<=1048576)(n3:m.length<=1048576)(c8:ls.length<=1048576)(eb:qs.length<=1048576)(hT:jW B+bW n+hW m+lW ls<=1048576):
 Calls prog 3 #[.agg #[.slice a1 B.length c1,.slice a2 n.length c2,.slice a3 m.length c3],.slice al ls.length cl,.slice aq qs.length cq] w fun e w'=>e=.returned (.bool true)/\Below w.heap.size w w':=by
 obtain⟨HZ,bj,ay,HT⟩:=Ic hz hv dz hT;obtain⟨B0,c9⟩:=nm w.heap.size;obtain⟨V,hV⟩:=nm (w.alloc (.cells #[.slice a1 B.length c1,.slice a2 n.length c2,.slice a3 m.length c3] 26));have d:=Hi (((((((nN.start w).add hg jq.nu).add hm kS.nu).add hk ug.nu).add hf (ja.nu _ _ _ _ _ _ _ _ _)).add hl (eO.nu _ _ _ _)).add hq (Lm _ _ _) |>.below (show Below w.heap.size w V from by rw[<-hV];exact(ac _ _).alloc lZ _));have ed:SB V B0 26 #[.slice a1 B.length c1,.slice a2 n.length c2,.slice a3 m.length c3]:=by rw[<-hV,<-c9];exact cK w _ _
 have J:=Hi (d.o.add (P:=(fun v=>SB v B0 26 #[.slice a1 B.length c1,.slice a2 n.length c2,.slice a3 m.length c3])) ed (SB.nu _ _ _));clear d;have d:=J;clear J;obtain⟨ee,gb⟩:=Ia hV c9;clear hg hm hk hf hz hl hv hq dz hV c9 ed hT;go_enter func3,ntmps3;go_wp2_with fail;rw[ee.o];simp only[gb.o];clear ee;have U:=d.o.jP 0 rfl;go_fit (WJ V U);rintro e w1 ⟨rfl,hb⟩;clear U;have J:=Hi (d.o.below hb);clear d;have d:=J;clear J;clear hb;have f:=d.o.jP 6 rfl;obtain⟨x0,x1,x2⟩:=lQ f;clear f;have I:=d.o.jP 2 rfl;have m0:w1.cell? ⟨0,0,none⟩=some (.int .i64 (-9)):=I.l0;have m1:w1.cell? ⟨0,1,none⟩=some (.string ⟨#[]⟩):=I.l1;have m2:w1.cell? ⟨0,2,none⟩=some (.string ⟨#[]⟩):=I.l2;clear I;have gc:w1.heap.size≠B0:=nI (bI _ _ x0);have gd:w1.heap.size≠0:=nI (bI _ _ m0);go_upto_region 3 with fail
 go_cut [7,8,9] (fun s7 s8 s9 wc=>∃bo g1 g2 g3 gl gq:Nat,s7=.pointer (some ⟨bo,0,none⟩)/\s8=.slice (some ⟨gl,0,none⟩) ls.length (ls.length+3)/\s9=.slice (some ⟨gq,0,none⟩) qs.length (qs.length+3)/\SB wc bo 26 #[.slice (some ⟨g1,0,none⟩) B.length (B.length+3),.slice (some ⟨g2,0,none⟩) n.length (n.length+3),.slice (some ⟨g3,0,none⟩) m.length (m.length+3)]/\qG wc g1 g2 g3 B n m/\eO L3.cells wc (some ⟨gl,0,none⟩) (ls.length+3) (ls++ [nf,nf,nf])/\eO tc wc (some ⟨gq,0,none⟩) (qs.length+3) (qs++ [oJ,oJ,oJ])/\Below w1.heap.size w1 wc)
 case first=>
  go_region_held3 (fun v=>v.cell? ⟨B0,0,none⟩=some (.slice a1 B.length c1)/\v.cell? ⟨B0,1,none⟩=some (.slice a2 n.length c2)/\v.cell? ⟨B0,2,none⟩=some (.slice a3 m.length c3)/\v.cell? ⟨0,0,none⟩=some (.int .i64 (-9))/\v.cell? ⟨0,1,none⟩=some (.string ⟨#[]⟩)/\v.cell? ⟨0,2,none⟩=some (.string ⟨#[]⟩)) ((first|(simp [*];done)|go_keep)) (first
   |(
    go_at_call 5;apply cM;apply T8 a1 a2 a3 c1 c2 c3 B n m
    first|exact d.o.jP 1 rfl|exact d.o.drew.jP 1 rfl|exact(d.o.below (bR.alloc lZ _)).jP 1 rfl|exact(d.o.below ((bR.alloc lZ _).drew)).jP 1 rfl|exact(d.o.drew.below (bR.alloc lZ _)).jP 1 rfl
    first|exact(d.o.jP 3 rfl).j|exact(d.o.drew.jP 3 rfl).j|exact((d.o.below (bR.alloc lZ _)).jP 3 rfl).j|exact((d.o.below ((bR.alloc lZ _).drew)).jP 3 rfl).j|exact((d.o.drew.below (bR.alloc lZ _)).jP 3 rfl).j
    first|exact(d.o.jP 3 rfl).b|exact(d.o.drew.jP 3 rfl).b|exact((d.o.below (bR.alloc lZ _)).jP 3 rfl).b|exact((d.o.below ((bR.alloc lZ _).drew)).jP 3 rfl).b|exact((d.o.drew.below (bR.alloc lZ _)).jP 3 rfl).b
    first|exact(d.o.jP 3 rfl).h|exact(d.o.drew.jP 3 rfl).h|exact((d.o.below (bR.alloc lZ _)).jP 3 rfl).h|exact((d.o.below ((bR.alloc lZ _).drew)).jP 3 rfl).h|exact((d.o.drew.below (bR.alloc lZ _)).jP 3 rfl).h
    exact n1;exact n2;exact n3;rintro e wn ⟨g1,g2,g3,rfl,r1,r2,r3,F⟩;have J:=Hi (((by first|exact d.o|exact d.o.drew|exact d.o.below (bR.alloc lZ _)|exact d.o.below ((bR.alloc lZ _).drew)|exact d.o.drew.below (bR.alloc lZ _):nN w _ _).below F).add (P:=(fun v=>qG v g1 g2 g3 B n m)) ⟨r1,r2,r3⟩ (qG.nu _ _ _ _ _ _));have bk:O (Bl w1 wn):=Hi (by first|exact F|exact(ac _ _).drew.trans F|exact bT (bR.alloc lZ _) F|exact bT ((bR.alloc lZ _).drew) F);(first|with_reducible have f:=LK (t:=26) F|with_reducible have f:=LJ (t:=26) F|skip);(try have HX:=Hi f);(try clear f);clear r1 r2 r3;clear d F x0 x1 x2 m0 m1 m2;have d:=J;clear J;have f:=d.o.jP 6 rfl;obtain⟨x0,x1,x2⟩:=lQ f;clear f;have I:=d.o.jP 2 rfl;have m0:wn.cell? ⟨0,0,none⟩=some (.int .i64 (-9)):=I.l0;have m1:wn.cell? ⟨0,1,none⟩=some (.string ⟨#[]⟩):=I.l1;have m2:wn.cell? ⟨0,2,none⟩=some (.string ⟨#[]⟩):=I.l2;clear I;have cs:wn.heap.size≠B0:=nI (bI _ _ x0);have ct:wn.heap.size≠0:=nI (bI _ _ m0)
    skip)
   |(
    go_at_call 6;apply cM;apply VB al cl ls (-9) ⟨#[]⟩ ⟨#[]⟩
    first|exact d.o.jP 4 rfl|exact d.o.drew.jP 4 rfl|exact(d.o.below (bR.alloc lZ _)).jP 4 rfl|exact(d.o.below ((bR.alloc lZ _).drew)).jP 4 rfl|exact(d.o.drew.below (bR.alloc lZ _)).jP 4 rfl
    exact c8;rintro e wm ⟨gl,_,rfl,rl,F⟩;have J:=Hi (((by first|exact d.o|exact d.o.drew|exact d.o.below (bR.alloc lZ _)|exact d.o.below ((bR.alloc lZ _).drew)|exact d.o.drew.below (bR.alloc lZ _):nN w _ _).below F).add (P:=(fun v=>eO L3.cells v (some ⟨gl,0,none⟩) (ls.length+3) (ls++ [nf,nf,nf]))) rl (eO.nu _ _ _ _));have da:O (Bl w1 wm):=Hi (bk.o.trans (uz (by first|exact F|exact(ac _ _).drew.trans F|exact bT (bR.alloc lZ _) F|exact bT ((bR.alloc lZ _).drew) F:Bl wn wm) bk.o.size));(first|have f:=HX.o.below F HX.o.lt|with_reducible have f:=LK (t:=26) F|with_reducible have f:=LJ (t:=26) F|skip);(try clear HX);(try have HX:=Hi f);(try clear f);clear rl;clear d F x0 x1 x2 m0 m1 m2;have d:=J;clear J;have f:=d.o.jP 6 rfl;obtain⟨x0,x1,x2⟩:=lQ f;clear f;have I:=d.o.jP 2 rfl;have m0:wm.cell? ⟨0,0,none⟩=some (.int .i64 (-9)):=I.l0;have m1:wm.cell? ⟨0,1,none⟩=some (.string ⟨#[]⟩):=I.l1;have m2:wm.cell? ⟨0,2,none⟩=some (.string ⟨#[]⟩):=I.l2;clear I;have cs:wm.heap.size≠B0:=nI (bI _ _ x0);have ct:wm.heap.size≠0:=nI (bI _ _ m0)
    skip)
   |(
    go_at_call 7;apply cM;apply YN aq cq qs oJ
    first|exact d.o.jP 5 rfl|exact d.o.drew.jP 5 rfl|exact(d.o.below (bR.alloc lZ _)).jP 5 rfl|exact(d.o.below ((bR.alloc lZ _).drew)).jP 5 rfl|exact(d.o.drew.below (bR.alloc lZ _)).jP 5 rfl
    exact eb;rintro e wt ⟨gq,_,rfl,rl,F⟩;have J:=Hi (((by first|exact d.o|exact d.o.drew|exact d.o.below (bR.alloc lZ _)|exact d.o.below ((bR.alloc lZ _).drew)|exact d.o.drew.below (bR.alloc lZ _):nN w _ _).below F).add (P:=(fun v=>eO tc v (some ⟨gq,0,none⟩) (qs.length+3) (qs++ [oJ,oJ,oJ]))) rl (Lm _ _ _));have db:O (Bl w1 wt):=Hi (da.o.trans (uz (by first|exact F|exact(ac _ _).drew.trans F|exact bT (bR.alloc lZ _) F|exact bT ((bR.alloc lZ _).drew) F:Bl wm wt) da.o.size));(first|have f:=HX.o.below F HX.o.lt|with_reducible have f:=LK (t:=26) F|with_reducible have f:=LJ (t:=26) F|skip);(try clear HX);(try have HX:=Hi f);(try have k0:=f.cell 0);(try have k1:=f.cell 1);(try have k2:=f.cell 2);(try have f0:=f.free 0);(try have f1:=f.free 1);(try have f2:=f.free 2);(try simp only[aK,aI,aM]at k0 k1 k2);(try clear f);clear rl;clear d F x0 x1 x2 m0 m1 m2;have d:=J;clear J;have f:=d.o.jP 6 rfl;obtain⟨x0,x1,x2⟩:=lQ f;clear f;have I:=d.o.jP 2 rfl;have m0:wt.cell? ⟨0,0,none⟩=some (.int .i64 (-9)):=I.l0;have m1:wt.cell? ⟨0,1,none⟩=some (.string ⟨#[]⟩):=I.l1;have m2:wt.cell? ⟨0,2,none⟩=some (.string ⟨#[]⟩):=I.l2;clear I;have cs:wt.heap.size≠B0:=nI (bI _ _ x0);have ct:wt.heap.size≠0:=nI (bI _ _ m0)
    skip)
   |fail)
  all_goals
   go_wp2_with fail;go_meet
   case rel=>
    have ef:=d.o.jP 7 rfl;have eg:=d.o.jP 8 rfl;have eh:=d.o.jP 9 rfl
    first
     |(obtain⟨h1,h2,h3⟩:=XZ (x:=.slice (some ⟨g1,0,none⟩) B.length (B.length+3)) (y:=.slice (some ⟨g2,0,none⟩) n.length (n.length+3)) (z:=.slice (some ⟨g3,0,none⟩) m.length (m.length+3)) HX.o
       exact⟨_,g1,g2,g3,gl,gq,rfl,rfl,rfl,h1,ef.fs h3,eg.fs L3.tH h3,eh.fs Wk h3,db.o.trans (h2.below (by first|exact aV _|exact bk.o.size|exact da.o.size) db.o.size)⟩)
     |exact⟨_,g1,g2,g3,gl,gq,rfl,rfl,rfl,cK _ _ _,ef.below (bR.alloc lZ _),eg.below (bR.alloc lZ _),eh.below (bR.alloc lZ _),bT db.o (bR.alloc lZ _)⟩
 case rest=>
 obtain⟨w2,rfl⟩:∃w2,w2=wc:=⟨wc,rfl⟩;obtain⟨bo,g1,g2,g3,gl,gq,rfl,rfl,rfl,T,a7,ei,bl,hb⟩:=hcut;clear x0 x1 x2 m0 m1 m2 gc gd;have J:=Hi (d.o.below hb);clear d;have d:=J;clear J;clear hb;have J:=Hi (d.o.add (P:=(fun v=>SB v bo 26 #[.slice (some ⟨g1,0,none⟩) B.length (B.length+3),.slice (some ⟨g2,0,none⟩) n.length (n.length+3),.slice (some ⟨g3,0,none⟩) m.length (m.length+3)])) T (SB.nu _ _ _));clear d;have d:=J;clear J;have J:=Hi (d.o.add (P:=(fun v=>qG v g1 g2 g3 B n m)) a7 (qG.nu _ _ _ _ _ _));clear d;have d:=J;clear J;have J:=Hi (d.o.add (P:=(fun v=>eO L3.cells v (some ⟨gl,0,none⟩) (ls.length+3) (ls++ [nf,nf,nf]))) ei (eO.nu _ _ _ _));clear d;have d:=J;clear J;have J:=Hi (d.o.add (P:=(fun v=>eO tc v (some ⟨gq,0,none⟩) (qs.length+3) (qs++ [oJ,oJ,oJ]))) bl (Lm _ _ _));clear d;have d:=J;clear J;clear T a7 ei bl;have f:=d.o.jP 6 rfl;obtain⟨x0,x1,x2⟩:=lQ f;clear f;go_wp2_with fail;clear x0 x1 x2;have U:=d.o.jP 0 rfl;have az:=d.o.jP 3 rfl;have ej:=d.o.jP 4 rfl;go_fit (Vn a1 a2 a3 al c1 c2 c3 cl B n m ls vs w2 U az HZ.o ej bj.o c8);rintro e w3 ⟨hb,lv,c,a8,rfl,cu⟩;clear U az ej;have J:=Hi (d.o.below hb);clear d;have d:=J;clear J;clear hb;obtain⟨b8,bm⟩:=nm w3.heap.size;obtain⟨V4,bb⟩:=nm ((w3.alloc (.cells #[.int .i64 c,.int .i64 a8] 41)).alloc (.cells #[.slice none 0 0,.slice none 0 0,.slice none 0 0] 47));have aj:=Ub bb;have W:=Ug bb bm;have an:=Uh bb bm;obtain⟨k0,-⟩:=zc W.o;obtain⟨ek,cf,ba⟩:=Ib bb bm cu;rw[<-bb,<-bm]at k0;clear bb bm cu;go_upto_if 39 with fail
 rw[ek.o];simp only[cf.o];clear k0;have ae:O (∀(u:Vz)(hu:Bl w3 u),jq u/\qG u g1 g2 g3 B n m/\eO L3.cells u (some ⟨gl,0,none⟩) (ls.length+3) ls):=Hi (fun u hu=>by
  have h:=d.o.below hu
  exact⟨h.jP 0 rfl,h.jP 8 rfl,(h.jP 9 rfl).left⟩)
 go_cut [13,14] (fun hw h0 wc=>oR g1 g2 g3 gl b8 (b8+1) B n m ls w3 wc)
 case first=>
  rcases ba.o with ⟨hc,bn,cg⟩|⟨a0,ch,⟨hc,cg⟩|⟨hc,ge,g,N,ts,hN,cg,em,en,dd⟩⟩
  rotate_left 2
  .
   subst cg hc ge;obtain⟨vb,vh,cv,ev,bv,G⟩:=Dm HZ.o a0;obtain⟨bp,de,_⟩:=ch.zero;obtain⟨P,b,Q,c',bq,eo⟩:=G.over bp bj.o de HT.o;have m1:=G.fv.j;have m2:=G.fv.b;have m3:=G.fv.h;have gf:0<B.length:=Bi (fun h=>a0.Dd.1 (.inl oO));obtain⟨df,gg⟩:=Ia (Gu a0 G.fv bv) G.fv;have hW:∀(i:Nat)(h:H3),m[i]?=some h->h.w=1∨h.w=2:=fun i h hi=>(Ln (a0.Dd.2.2.1 i h hi)).1
   have dg:O (∀(u:Vz),Below w3.heap.size w3 u->Calls prog 13 #[.agg #[.slice (some ⟨g1,0,none⟩) B.length (B.length+3),.slice (some ⟨g2,0,none⟩) n.length (n.length+3),.slice (some ⟨g3,0,none⟩) m.length (m.length+3)],.slice (some ⟨gl,0,none⟩) ls.length (ls.length+3)] u (pE u B.length n.length m.length (kC 8389708) vb vh cv ev bv (pJ vs))):=
    Hi (fun u hu=>OY (some ⟨g1,0,none⟩) (some ⟨g2,0,none⟩) (some ⟨g3,0,none⟩) (some ⟨gl,0,none⟩) _ _ _ _ (2*B.length) P b Q c' 8389708 83886121 B n m vb vh cv ev bv ls vs u (G.F9 (ae.o u hu).1 (ae.o u hu).2.1.row) HZ.o a0 (ae.o u hu).2.2 bp bj.o.len (bj.o.Dc de) (bj.o.fits bp) dD dD bq eo dD dD)
   have ep:=Hi (d.o.below aj.o);have d:=ep;have U:=d.o.jP 0 rfl;have az:=d.o.jP 3 rfl;have f:=d.o.jP 6 rfl;obtain⟨x0,x1,x2⟩:=lQ f;clear f;have bk:=Hi (Wx a1 a2 a3 (some ⟨g,0,none⟩) c1 c2 c3 N 738197945 (P*(Q*Q)) (b+(c'+c')) N B n m vb vh ts (pJ vs) cv ev bv V4 U az G.fv hW lZ hN.symm gf (em.below aj.o).row en (fun i t ht=>⟨(dd i t ht).1,aE (dd i t ht).2 dD⟩) (fun i x hx=>⟨(G.ce i x hx).1,(G.ce i x hx).2.2.1,(G.ce i x hx).2.1,(G.ce i x hx).2.2.2⟩) G.by_ (Lo (vh:=vh) bq (N:=N) (r:=0) oO 0).1 (Lo (vh:=vh) bq (N:=N) (r:=0) oO 0).2.1 (fun r j hr=>(Lo bq hr j).2.2) oO dD);obtain⟨k0,-⟩:=zc W.o;have gh:=Hi hN;clear U az ba a0 ch em en dd G bq eo hW de hN;go_wp2_with fail;go_fit bk.o;rintro e w5 ⟨aa,gj⟩;have gk:=gh.o;subst gk;rcases gj with ⟨he,h⟩|⟨he,h⟩|⟨v,us,rfl,ci,eq,dh,cw⟩
   rotate_left 2
   .
    have gm:=Hi eq;have er:O (∀y,Giv.GvOK (2*B.length) n.length m.length (dP vb n.length vh) cv ev bv (pJ vs) y↔∀(i:Nat)(t:RT),us[i]?=some t->y i=t.2.1):=Hi (fun y=>qM.symm.trans (cw y));obtain⟨S,hS⟩:=nm us.length;obtain⟨N,hN⟩:=nm (2*B.length);have es:S=N+(n.length+m.length):=oO;rcases ci.list.own.2 with ⟨_,h4⟩|⟨gx,cap,h5,hv,_,_,gn,_⟩
    . omega
    subst hv;rw[hS]at ci gn;have di:lk w5 (some ⟨gx,0,none⟩) us:=ci.xl;have et:(us.take N).length=N:=tO;have cj:(us.drop N).length=S - N:=by rw[ix];omega
    have eu:O (∀u,Below w5.heap.size w5 u->Calls prog 11 #[.slice (some ⟨gx,0,none⟩) N cap] u (cS u (wg w5.heap.size B.length (oH us)))):=Hi (fun u hu=>by
     have h:=Rs (some ⟨gx,0,none⟩) cap B.length 738197945 (us.take N) u (ae.o u (bT (bT aj.o aa) hu)).1.most ((di.take N).below hu) (fun t ht=>cO (dh t (dR ht))) dD oO oO;rw[et]at h;refine h.mono ?_;rintro e w' ⟨v,ss,rfl,ew,gp,dj,hb⟩;obtain⟨sa,sc,hv,_⟩:=qt ew;refine⟨v,rfl,hb,sa,sc,ss,hv,ui ew hu.size,gp,fun i s m=>?_⟩;have dk:=(gZ m).1;have k1:=gE (l:=us) (i:=2*i) oO;have k2:=gE (l:=us) (i:=2*i+1) oO;rw[Dv k1,Dv k2]
     exact dj i _ _ s (by rw[aW oO];exact k1) (by rw[aW oO];exact k2) m)
    obtain⟨A,hA,ey⟩:∃A:Addr,(if cap=N then some (⟨gx,0,none⟩:Addr) else some ⟨gx,N,none⟩)=some A/\lk w5 (some A) (us.drop N)/\A.spot=none:=by
     by_cases e:cap=N
     . refine⟨⟨gx,0,none⟩,by simp[e],?_,rfl⟩;have:us.drop N= []:=dG oO;rw[this];exact lk.nil _ _
     . exact⟨⟨gx,N,none⟩,by simp[e],by simpa using di.drop N,rfl⟩
    have ez:O (∀u,Below w5.heap.size w5 u->Calls prog 12 #[.agg #[.slice a1 B.length c1,.slice a2 n.length c2,.slice a3 m.length c3],.slice (some A) (S - N) (cap - N)] u (cS u (ud w5.heap.size n.length m.length (fun i=>oH us (N+i)) (fun i=>oH us (N+(n.length+i)))))):=Hi (fun u hu=>by
     obtain⟨ag,ao,ap⟩:=A;obtain⟨gr,rfl⟩:=ey;refine(QK _ _ a2 c2 n.length ag ao (cap - N) (S - N) 738197945 (us.drop N) u (ae.o u (bT (bT aj.o aa) hu)).1.most (gr.below hu) (fun t ht=>cO (dh t (fR ht))) dD oO cj oO oO rfl rfl).mono ?_;rintro e w' ⟨v1,v2,x,y,rfl,tx,ty,lx,ly,hx,hy,hb⟩;obtain⟨p1,q1,dl,_⟩:=TG.uv tx;obtain⟨p2,q2,hv2,_⟩:=TG.uv ty;subst dl hv2;refine⟨_,rfl,hb,p1,p2,q1,q2,x,y,rfl,ui tx hu.size,ui ty hu.size,⟨lx,fun i s m=>?_⟩,⟨by rw[ly,cj];omega,fun i s m=>?_⟩⟩
     . have dk:=(gZ m).1;have k1:=gE (l:=us) (i:=N+i) oO
       show iK s.data.toList (oH us (N+i))
       rw[Dv k1];exact hx i _ s (by rw[aW oO,fN];exact k1) m
     . have dk:=(gZ m).1;rw[ly,cj]at dk;have k1:=gE (l:=us) (i:=N+(n.length+i)) oO
       show iK s.data.toList (oH us (N+(n.length+i)))
       rw[Dv k1]
       exact hy i _ s (by rw[fN,fN];exact k1) m)
    obtain⟨ah,bc,e2,br,bt⟩:=Id (pC 0 0 w5) (bT aj.o aa) (d.o.below aa) (W.o.below aa W.o.lt) (an.o.below aa an.o.lt);have h6:N<=cap:=oO;have h7:N<=S:=oO;have eN:IntKind.i64.wrap (2*(B.length:Int))=(N:Int):=by rw[wrap_i64 _ oO oO];omega
    obtain⟨h8,gs,h9⟩:=Ib es hN hS;rw[hS];clear aa k0 x0 x1 x2 W an ci eq dh cw d ep di et cj ey es hN hS;go_wp2_with fail;go_fit ah.o;rintro e w6 ⟨rfl,L⟩;obtain⟨dm,am,ck,e3,d⟩:=Id (bT bc.o L) (br.o.below L br.o.lt) (bt.o.below L bt.o.lt) L (e2.o.below L);obtain⟨z0,z1,-⟩:=zc am.o;have f0:=am.o.free 0;have f1:=am.o.free 1;have bu:O ((w6.setCell ⟨b8,0,none⟩ (.int .i64 0)).setCell ⟨b8,1,none⟩ (.int .i64 0)=w6):=Hi (by
     rw[PL (v:=.int .i64 0) am.o (i:=0) rfl,PL (v:=.int .i64 0) am.o (i:=1) rfl])
    obtain⟨Y6,dn⟩:=nm w6.drew;have ax:Bl w6 Y6:=by rw[<-dn];exact(ac _ _).drew
    obtain⟨cx,e4,e5,e6,ai⟩:=Id (bT e3.o ax) (bT dm.o ax) (am.o.below ax am.o.lt) (ck.o.below ax ck.o.lt) ((d.o.below ax).jP 6 rfl);have f:=d.o.jP 6 rfl;obtain⟨x0,x1,x2⟩:=lQ f;clear f;rw[<-bu.o]at x0 x1 x2;have gt:=Hi dn;clear L ah dn ax e2;go_wp2_with fail;refine ou 10 (fun j=>some (54+j)) ?_;rw[bu.o,gt.o];clear x0 x1 x2 z0 z1 f0 f1;refine cV [] ?_;refine cV [] ?_;refine cV [0,1] ?_;refine fP (φ:=wg w5.heap.size B.length (oH us)) [2] (wg.eL _ _ _) (fun w hb=>?_) ?_
    . intro K hK;go_simp;exact fB (eu.o w (bT cx.o hb)) hK
    refine gJ (c:=?_) [] (fun w hb=>?_) ?_;rotate_left
    . intro K hK;have d0:=(ai.o.below hb ai.o.lt).cell 0;have d1:=(ai.o.below hb ai.o.lt).cell 1;have d2:=(ai.o.below hb ai.o.lt).cell 2;simp only[aK,aI,aM]at d0 d1 d2;go_simp;exact hK
    refine cV [] ?_;refine cV [] ?_;refine cV [5,6] ?_;refine fP (φ:=ud w5.heap.size n.length m.length (fun i=>oH us (N+i)) (fun i=>oH us (N+(n.length+i)))) [4,7] (ud.eL _ _ _ _ _) (fun w hb=>?_) ?_
    . intro K hK;go_simp;exact fB (ez.o w (bT cx.o hb)) hK
    refine fP (φ:=CS w5.heap.size B.length n.length m.length (oH us) (fun i=>oH us (N+i)) (fun i=>oH us (N+(n.length+i)))) [3,8] (CS.eL _ _ _ _ _ _ _) (fun w hb=>?_) ?_
    . rintro _ ⟨p0,q0,ss,rfl,k1,k2,k3⟩ _ ⟨p1,p2,q1,q2,p,q,rfl,k4,k5,k6,k7⟩;have gu:=Hi (cZ k2 (cZ k3 (cZ k6 k7)));clear k2 k3 k6 k7;intro K hK;go_simp;exact hK _ _ bR ⟨p0,p1,p2,q0,q1,q2,ss,p,q,rfl,k1,k4,k5,gu.o⟩
    refine qr aL (by rfl) (by rfl) kK (fun u hb=>?_);simp only[nE,cH,bO,sR,Act.put,aU,cN,bX,Nat.reduceAdd,Nat.reduceBEq,gO,fS];rintro v3 _ v8 _ _ ⟨p0,p1,p2,q0,q1,q2,ss,p,q,rfl,k1,k4,k5,k2,k3,k6,k7⟩;intro K hK;obtain⟨gv,bw,gw,HK⟩:=Ic (e5.o.below hb e5.o.lt) (e6.o.below hb e6.o.lt) (bT e4.o hb) (cZ k1 (cZ k4 (cZ k5 (cZ k2 (cZ k3 (cZ k6 k7))))));obtain⟨z0,z1,z2,-⟩:=zc bw.o;have f0:=bw.o.free 0;have f1:=bw.o.free 1;have f2:=bw.o.free 2;clear hb k1 k2 k3 k4 k5 k6 k7;go_simp;refine hK _ _ ?_;clear hK z0 z1 z2 f0 f1 f2;go_wp2_with fail;go_meet
    case rel=> obtain⟨k1,k4,k5,k2,k3,k6,k7⟩:=HK.o;have e1:=gs.o;exact oR.moved cf.o gv.o bw.o gw.o k1 k4 k5 oO (by rw[k6.1];omega) (by rw[k7.1];omega) (fun u hu=>(dg.o u hu).mono (fun e w' h=>Wt gg.o h df.o gm.o er.o k2 k3 (by rw[e1];exact k6) (by rw[e1];exact k7)))
   have dp:=Hi (fun u (hu:Bl w3 u)=>((dg.o u hu).mono (fun e w' k=>Wv k df.o (fun x hx=>h x (qM.2 hx))):Calls _ _ _ u (nH 8 0 [] [] [] u)));obtain⟨C,hC⟩:∃C:Int,(8:Int)=C:=⟨_,rfl⟩
   rotate_left 1
   have dp:=Hi (fun u (hu:Bl w3 u)=>((dg.o u hu).mono (fun e w' k=>Wu k df.o (Exists.elim h fun x h=>Exists.elim h fun y h=>⟨x,y,qM.1 h.1,qM.1 h.2.1,h.2.2⟩)):Calls _ _ _ u (nH 9 0 [] [] [] u)));obtain⟨C,hC⟩:∃C:Int,(9:Int)=C:=⟨_,rfl⟩
   all_goals
    have e0:(C == 0)=false:=by rw[<-hC];rfl
    rw[hC]at he dp;subst he;clear h hC;obtain⟨ah,bc⟩:=Ia (pC C 0 w5) (bT aj.o aa);have s8:=W.o.below aa W.o.lt;have s9:=an.o.below aa an.o.lt;obtain⟨br,bt⟩:=Ia s8 s9;clear aa k0 x0 x1 x2 s8 s9 W an;go_wp2_with fail;go_fit ah.o;rintro e w6 ⟨rfl,L⟩;obtain⟨dm,am,ck⟩:=Ib (bT bc.o L) (br.o.below L br.o.lt) (bt.o.below L bt.o.lt);obtain⟨z0,z1,-⟩:=zc am.o;have f0:=am.o.free 0;have f1:=am.o.free 1;clear L ah;go_wp2_with fail;go_meet
    case rel=>exact oR.Ga cf.o am.o ck.o dm.o dp.o
  have e7:O (dW B n m c a8∨dW B n m 0 0/\jI B.length (n.length+m.length) ls c a8):=Hi (.inl bn);clear bn
  rotate_left 1
  have e7:O (dW B n m c a8∨dW B n m 0 0/\jI B.length (n.length+m.length) ls c a8):=Hi (.inr ⟨a0,ch⟩);clear a0 ch
  all_goals
   subst cg;have HC:=Hi hc;obtain⟨k0,-⟩:=zc W.o;have e0:(c == 0)=false:=sU hc;clear hc ba;go_wp2_with fail;go_meet
   case rel=>
    exact⟨c,a8,none,none,none,0,0,0,[],[],[],W.o,an.o,OH _,IM _,IM _,dD,dD,dD,aj.o,fun u hu=>(Xm (some ⟨g1,0,none⟩) (some ⟨g2,0,none⟩) (some ⟨g3,0,none⟩) (some ⟨gl,0,none⟩) _ _ _ _ B n m ls c a8 u (ae.o u hu).1 (ae.o u hu).2.1.row HZ.o (ae.o u hu).2.2 oO e7.o HC.o).mono (fun e w' h=>by
     obtain⟨rfl,hb⟩:=h
     exact .none hb)⟩
 case rest=>
 obtain⟨w5,rfl⟩:∃w5,w5=wc:=⟨wc,rfl⟩;obtain⟨c',gy,p0,p1,p2,q0,q1,q2,ss,x,y,s8,s9,ts,tx,ty,ia,lx,ly,aa,cy⟩:=hcut;obtain⟨W,an,au,e8,e9,bc,fa⟩:=If s8 s9 ts tx ty aa cy;have bd:=d;have J:=Hi (d.o.below aa);clear d;have d:=J;clear J s8 s9 ts tx ty aa cy ae ba aj ek;go_wp2_with fail;go_loopw [64] (fun iv wr=>∃k:Nat,k<=2/\iv=.int .i64 k/\Below w5.heap.size w5 wr) (fun iv _=>2 - (intOf iv).toNat)
 case atStart=>exact⟨0,dD,rfl,ac _ _⟩
 case round=>
  obtain⟨k,hk,rfl,dq⟩:=hrel;obtain⟨be,J⟩:=Ia dq (d.o.below dq);clear d dq;have d:=J;clear J;by_cases ib:k<2
  .
   have ic:(k:Int)<2:=oO;have T:=d.o.jP 7 rfl;obtain⟨y0,y1,y2⟩:=lQ T;clear T;have gz:=Hi (fa.o wr (bT bc.o be.o));go_wp2_with fail;clear y0 y1 y2;go_fit gz.o;rintro e w6 ⟨v0,v1,v2,rfl,dr,ds,fb,L⟩;obtain⟨r0,g0,t0⟩:=dr.row;obtain⟨r1,dl,t1⟩:=ds.uv;obtain⟨r2,hv2,t2⟩:=fb.uv;subst g0 dl hv2;obtain⟨fc,fd⟩:=Ia dr ds.Qr;obtain⟨ie,a4⟩:=nm w6.heap.size;obtain⟨V7,a9⟩:=nm ((w6.alloc (.cells #[.slice r0 ss.length ss.length,.slice r1 x.length x.length,.slice r2 y.length y.length] 47)).alloc (.cells #[.int .i64 c',.int .i64 gy] 41));have aw:Bl w6 V7:=by rw[<-a9];exact lN w6 _ _
   obtain⟨cz,fe⟩:=Ia aw (bT L aw);have a5:=Hi (bT be.o fe.o);have bx:=Ug a9 a4;have ff:=Uh a9 a4;have fg:=Hi (Wl r0 r1 r2 p0 p1 p2 ss.length x.length y.length q0 q1 q2 ss x y V7 (t0.below aw) (au.o.below a5.o) (t1.below aw) (e8.o.below a5.o) (t2.below aw) (e9.o.below a5.o) oO oO oO);obtain⟨fh,fj,-⟩:=zc (W.o.below a5.o W.o.lt);obtain⟨fk,fl,fm,-⟩:=zc (an.o.below a5.o an.o.lt);obtain⟨s0,s1,s2,-⟩:=zc bx.o;obtain⟨s3,s4,-⟩:=zc ff.o;rw[<-a9]at fh fj fk fl fm;rw[<-a9,<-a4]at s0 s1 s2 s3 s4;obtain⟨g4,fn⟩:=Ia a9 a4;clear dr ds fb t0 t1 t2 L aw a9 a4;go_wp2_with fail;rw[g4.o];simp only[fn.o];clear fh fj fk fl fm s0 s1 s2 s3 s4;go_fit fg.o;rintro e w8 ⟨rfl,a6⟩;obtain⟨c0,c4,g5,g6⟩:=Ic (bT fe.o a6) (bx.o.below a6 bx.o.lt) ((fc.o.below cz.o).below a6) ((fd.o.below cz.o).below a6);obtain⟨s0,-⟩:=zc c4.o;clear a6 fg;go_wp2_with fail;clear s0;go_fit (Wn g5.o c0.o.size);rintro e w9 ⟨rfl,bz,dt⟩;obtain⟨c5,g7⟩:=Ia (c0.o.trans bz) (g6.o.F6 dt);obtain⟨-,s1,-⟩:=zc (dt _ _ _ c4.o dD);clear bz dt;go_wp2_with fail;clear s1;go_fit (X3 g7.o lx c5.o.size);rintro e ig ⟨rfl,ar,_,_⟩;have du:=Hi (bT be.o (c5.o.trans ar));clear ar;go_wp2;go_roundw
   case rel=>exact⟨k+1,oO,by go_num,du.o⟩
   case measure=>exact mI
  .
   obtain rfl:k=2:=oO;obtain⟨g8,b0⟩:=Ia (bT bc.o be.o) (W.o.below be.o W.o.lt);have bf:O (w3.heap.size<=b8):=Hi (cO cf.o);obtain⟨dc,dx,bn⟩:=dW.ex B n m;have ah:=Hi bn;clear bn fa au e8 e9 an be W;have U:=d.o.jP 0 rfl;have a7:=d.o.jP 8 rfl;have bl:=d.o.jP 10 rfl;obtain⟨D,DX,R,fo,cm⟩:∃(D DX:Int)(R:ByteArray->Prop),O (Calls prog 17 #[.agg #[.slice (some ⟨g1,0,none⟩) B.length (B.length+3),.slice (some ⟨g2,0,none⟩) n.length (n.length+3),.slice (some ⟨g3,0,none⟩) m.length (m.length+3)],.slice (some ⟨gq,0,none⟩) qs.length (qs.length+3)] wr (fun e w'=>∃s:Vs,e=.returned (.tuple #[.string s,.agg #[.int .i64 D,.int .i64 DX]])/\R s/\Below wr.heap.size wr w'))/\O ((dc≠0/\D=dc/\DX=dx/\∀s,R s->s=⟨#[]⟩)∨(dc=0/\dx=0/\∃vb vh cv ev bv,GN B n m vb vh cv ev bv/\((qs.length≠n.length/\D=10/\(n.length:Int)+(m.length:Int)=DX/\∀s,R s->s=⟨#[]⟩)∨(qs.length=n.length/\D=0/\DX=0/\∀s,R s->iK s.data.toList (zJ tv cv n.length))))):=by
    by_cases bh:dc=0
    rotate_left 1
    . exact⟨dc,dx,fun s=>s=⟨#[]⟩,Hi ((Ws (some ⟨g1,0,none⟩) (some ⟨g2,0,none⟩) (some ⟨g3,0,none⟩) (some ⟨gq,0,none⟩) (B.length+3) (n.length+3) (m.length+3) (qs.length+3) qs.length B n m dc dx wr U a7.row HZ.o ah.o bh).mono fun e w' h=>⟨_,h.1,rfl,h.2⟩),Hi (.inl ⟨bh,rfl,rfl,fun _ h=>h⟩)⟩
    subst bh;obtain rfl:dx=0:=by obtain⟨hm,hb,hh,_⟩:=ah.o.Dd;exact(ah.o.inj (show dW B n m 0 0 from .inr (.inr ⟨hm,hb,.inr ⟨hh,rfl,rfl⟩⟩))).2
    obtain⟨vb,vh,cv,ev,bv,G⟩:=Dm HZ.o ah.o;by_cases av:qs.length=n.length
    rotate_left 1
    . exact⟨10,_,fun s=>s=⟨#[]⟩,Hi ((Wq (some ⟨g1,0,none⟩) (some ⟨g2,0,none⟩) (some ⟨g3,0,none⟩) (some ⟨gq,0,none⟩) (B.length+3) (n.length+3) (m.length+3) (qs.length+3) qs.length B n m wr U a7.row HZ.o ah.o av).mono fun e w' h=>⟨_,h.1,rfl,h.2⟩),Hi (.inr ⟨rfl,rfl,vb,vh,cv,ev,bv,G,.inl ⟨av,rfl,rfl,fun _ h=>h⟩⟩)⟩
    refine⟨0,0,fun s=>iK s.data.toList (zJ tv cv n.length),Hi ?_,Hi (.inr ⟨rfl,rfl,vb,vh,cv,ev,bv,G,.inr ⟨av,rfl,rfl,fun _ h=>h⟩⟩)⟩;rw[av,OM _ G.pos];refine(OW (some ⟨g1,0,none⟩) (some ⟨g2,0,none⟩) (some ⟨g3,0,none⟩) (some ⟨gq,0,none⟩) (B.length+3) (n.length+3) (m.length+3) (n.length+3) (2*B.length) 4194305 12582915 B n m vb vh cv ev bv tv qs wr (G.F9 U a7.row) HZ.o ah.o (OG bl.left) av (fun i s m=>⟨(ay.o i s m).1,by have:=(ay.o i s m).2;omega,((ay.o i s m).1.oA (ay.o i s m).2).mono dD⟩) (1 / 2) tW.uV dD rfl dD).mono ?_;rintro e w' ⟨⟨s,he,m⟩,hb⟩;exact⟨s,he,m,hb⟩
   clear U a7 bl;have T:=d.o.jP 7 rfl;obtain⟨y0,y1,y2⟩:=lQ T;clear T;go_wp2_with fail;clear y0 y1 y2;go_fit fo.o;rintro e w6 ⟨s,rfl,fp,L⟩;obtain⟨dv,b1⟩:∃b,w6.heap.size=b:=⟨_,rfl⟩;obtain⟨V6,b2⟩:∃V,w6.alloc (.cells #[.int .i64 (D),.int .i64 (DX)] 41)=V:=⟨_,rfl⟩;have b3:Bl w6 V6:=by rw[<-b2];exact(ac _ _).alloc lZ _
   have H:=Uf b2 b1;have b4:=bT g8.o (bT L b3);obtain⟨c6,b5⟩:=Ia b4 (b0.o.below (bT L b3) b0.o.lt);have ab:O (b8≠dv):=Hi (oC b0.o.lt L.size);have d:=Hi (bd.o.below b4);have f:=d.o.jP 6 rfl;obtain⟨x0,x1,x2⟩:=lQ f;clear f;have U:=d.o.jP 0 rfl;have az:=d.o.jP 3 rfl;have fq:=Hi (NQ a1 a2 a3 c1 c2 c3 B n m V6 U az HZ.o);rw[<-b2]at x0 x1 x2;obtain⟨g9,fr⟩:=Ia b2 b1;clear U az L b3 b4 b2 b1 fo;go_wp2_with fail;rw[g9.o];simp only[fr.o];clear x0 x1 x2;go_fit fq.o;rintro e w7 ⟨cc,ca,rfl,c7,cn⟩;obtain⟨ec,ea⟩:=ah.o.inj c7;subst ec ea;obtain⟨Z,E⟩:=Ia (bT c6.o cn) (b5.o.below cn b5.o.lt);have b6:=Hi (H.o.below cn H.o.lt);clear cn c7 fq b5 H c6;have H:=b6;clear b6;obtain⟨z0,z1,-⟩:=zc E.o;have f0:=E.o.free 0;have f1:=E.o.free 1;have au:=Hi fp;clear fp;have d:=Hi (bd.o.below Z.o);have f:=d.o.jP 6 rfl;obtain⟨x0,x1,x2⟩:=lQ f;clear f;have T:=d.o.jP 7 rfl;obtain⟨y0,y1,y2⟩:=lQ T;clear T;have u0:=H.o.cell 0;have u1:=H.o.cell 1;simp only[aK,aI,aM]at u0 u1;have b7:=ab.o;have b9:b8≠B0:=fun e=>by subst e;have h1:=(d.o.jP 6 rfl).cell 0;have h2:=E.o.cell 0;rw[h1]at h2;cases h2
   have cb:b8≠bo:=fun e=>by subst e;have h1:=(d.o.jP 7 rfl).cell 0;have h2:=E.o.cell 0;rw[h1]at h2;cases h2
   have HC:=cm;rcases HC.o with ⟨bh,rfl,rfl,hR⟩|⟨rfl,rfl,vb,vh,cv,ev,bv,G,⟨av,hD,ft,hR⟩|⟨av,rfl,rfl,hR⟩⟩
   focus
    obtain rfl:s=⟨#[]⟩:=hR _ au.o;have e0:(D == 0)=false:=sU bh;obtain⟨X,rfl⟩:∃X,X=w7:=⟨w7,rfl⟩;clear bh HC cm au hR
   rotate_left 1
   focus
    obtain rfl:s=⟨#[]⟩:=hR _ au.o;have e1:((qs.length:Int) != (n.length:Int))=true:=by rw[jk];omega
    have e0:(D == 0)=false:=by rw[hD];rfl
    have HD:=Hi hD;have m2:=G.fv.b;have m3:=G.fv.h;have ha:O (∀u,Calls prog 19 #[.agg #[.slice a1 B.length c1,.slice a2 n.length c2,.slice a3 m.length c3]] u (fun e w'=>e=.returned (.int .i64 DX)/\Below u.heap.size u w')):=Hi (fun u=>by
     have h:=Fx a1 a2 a3 c1 c2 c3 B.length n.length m.length u m2 m3;rw[ft]at h
     exact h)
    clear av G hD ft HC cm au hR;obtain⟨W8,ad⟩:=nm ((w7.setCell ⟨b8,0,none⟩ (.int .i64 0)).setCell ⟨b8,1,none⟩ (.int .i64 0));have ak:O (Bl w3 W8):=Hi (by rw[<-ad];exact(Z.o.setCell (p:=⟨b8,0,none⟩) bf.o _).setCell (p:=⟨b8,1,none⟩) bf.o _);have af:O (SB W8 b8 41 #[.int .i64 0,.int .i64 0]):=Hi (by rw[<-ad];simpa using (E.o.set 0 (.int .i64 0)).set 1 (.int .i64 0));have M:O (SB W8 dv 41 #[.int .i64 D,.int .i64 DX]):=Hi (by rw[<-ad];exact(H.o.other (gH ab.o) _ _).other (gH ab.o) _ _);have cd:=Hi ad;clear ad;go_wp2_with fail;rw[cd.o];clear d x0 x1 x2 y0 y1 y2 u0 u1 b7 b9 cb z0 z1 f0 f1 Z E H;go_fit (ha.o W8);rintro e w9 ⟨rfl,bz⟩;obtain⟨fu,bi⟩:=Ia ((pC 10 DX w9).mono (R':=fun e w'=>e=.returned (.agg #[.int .i64 D,.int .i64 DX])/\Below w9.heap.size w9 w') (fun e w' h=>by rw[HD.o];exact h)) bz;clear bz;go_wp2_with fail;go_fit fu.o;rintro e X ⟨rfl,ar⟩;obtain⟨Z,E,H⟩:=Ib (bT ak.o (bT bi.o ar)) ((af.o.below bi.o af.o.lt).below ar (af.o.below bi.o af.o.lt).lt) ((M.o.below bi.o M.o.lt).below ar (M.o.below bi.o M.o.lt).lt);obtain⟨z0,z1,-⟩:=zc E.o;have f0:=E.o.free 0;have f1:=E.o.free 1;clear ar fu ak af M bi;have d:=Hi (bd.o.below Z.o);have f:=d.o.jP 6 rfl;obtain⟨x0,x1,x2⟩:=lQ f;clear f;have T:=d.o.jP 7 rfl;obtain⟨y0,y1,y2⟩:=lQ T;clear T;have u0:=H.o.cell 0;have u1:=H.o.cell 1;simp only[aK,aI,aM]at u0 u1;have b7:=ab.o;have b9:b8≠B0:=fun e=>by subst e;have h1:=(d.o.jP 6 rfl).cell 0;have h2:=E.o.cell 0;rw[h1]at h2;cases h2
    have cb:b8≠bo:=fun e=>by subst e;have h1:=(d.o.jP 7 rfl).cell 0;have h2:=E.o.cell 0;rw[h1]at h2;cases h2
   rotate_left 2
   iterate 2
    focus
     obtain⟨W8,ad⟩:=nm (((X).setCell ⟨b8,0,none⟩ (.int .i64 (D))).setCell ⟨b8,1,none⟩ (.int .i64 (DX)));have ak:O (Bl w3 W8):=Hi (by rw[<-ad];exact(Z.o.setCell (p:=⟨b8,0,none⟩) bf.o _).setCell (p:=⟨b8,1,none⟩) bf.o _);have cp:=Hi (bd.o.below ak.o);obtain⟨dw,cd⟩:=Ia (Ol g1 g2 g3 a1 a2 a3 c1 c2 c3 B n m W8 (cp.o.jP 1 rfl) (cp.o.jP 8 rfl) (cp.o.jP 3 rfl) n1 n2 n3) ad;clear ad;go_wp2_with fail;rw[cd.o];clear d;have d:=cp
    rotate_left 1
   focus
    obtain⟨fw,dy,au⟩:=Ib av G (hR _ au.o);have m2:=G.fv.b;have e1:((qs.length:Int) != (n.length:Int))=false:=by rw[vR];omega
    clear av G hR HC cm;obtain⟨W8,ad⟩:=nm ((w7.setCell ⟨b8,0,none⟩ (.int .i64 0)).setCell ⟨b8,1,none⟩ (.int .i64 0));obtain⟨Y,hY⟩:=nm W8.drew;have ax:Bl W8 Y:=by rw[<-hY];exact(ac _ _).drew
    have ak:O (Bl w3 Y):=Hi (bT (by rw[<-ad];exact(Z.o.setCell (p:=⟨b8,0,none⟩) bf.o _).setCell (p:=⟨b8,1,none⟩) bf.o _) ax);have af:O (SB Y b8 41 #[.int .i64 0,.int .i64 0]):=Hi (by rw[<-hY,<-ad];exact(show SB ((w7.setCell ⟨b8,0,none⟩ (.int .i64 0)).setCell ⟨b8,1,none⟩ (.int .i64 0)) b8 41 #[.int .i64 0,.int .i64 0] by simpa using (E.o.set 0 (.int .i64 0)).set 1 (.int .i64 0)).drew);have M:O (SB Y dv 41 #[.int .i64 0,.int .i64 0]):=Hi (by rw[<-hY,<-ad];exact((H.o.other (gH ab.o) _ _).other (gH ab.o) _ _).drew);have cr:=Hi (bd.o.below ak.o);have ai:=Hi (cr.o.jP 6 rfl);have hd:O (∀u,Below Y.heap.size Y u->Calls prog 22 #[.slice aq qs.length cq] u (cS u (BH n.length tv))):=Hi (fun u hu=>by
     have hp:=cr.o.below hu;refine(Tn aq cq qs.length 4194305 qs tv u (hp.jP 0 rfl) (OG (hp.jP 5 rfl)) (fun i s m=>⟨(ay.o i s m).1,by have:=(ay.o i s m).2;omega,((ay.o i s m).1.oA (ay.o i s m).2).mono dD⟩) dD rfl (oB fw.o)).mono ?_;rintro e w' ⟨v,ts,rfl,hg,hl,ht,hb⟩;obtain⟨a,c,rfl,hr⟩:=hg.row
     exact⟨_,rfl,hb,a,c,ts,rfl,hr,by rw[hl];exact fw.o,fun i t hi=>⟨(ht i t hi).1,cO (ht i t hi).2⟩⟩)
    obtain⟨cd,HY⟩:=Ia ad hY;clear ad hY ax;go_wp2_with fail;refine ou 6 (fun j=>match j with|5=>some 20|j=>some (114+j)) ?_;rw[cd.o,HY.o];clear d x0 x1 x2 y0 y1 y2 u0 u1 b7 b9 cb z0 z1 f0 f1 Z E H;refine gJ (c:=?_) [] (fun w hb=>?_) ?_;rotate_left
    . intro K hK;have d0:=(ai.o.below hb ai.o.lt).cell 0;have d1:=(ai.o.below hb ai.o.lt).cell 1;have d2:=(ai.o.below hb ai.o.lt).cell 2;simp only[aK,aI,aM]at d0 d1 d2;go_simp;exact hK
    refine cV [] ?_;refine fP (φ:=BH n.length tv) [1] (BH.eL _ _) (fun w hb=>?_) ?_
    . intro K hK;go_simp;exact fB (hd.o w hb) hK
    refine fP (φ:=RF (zJ tv cv n.length) 301992241) [0,2] (xF _ _) (fun w hb=>?_) ?_
    . rintro _ ⟨a,c,ts,rfl,k1,k2,k3⟩;intro K hK;have HE:=Hi (Xl a1 a2 a3 a c1 c2 c3 c 4194305 B n m ts cv tv w ((cr.o.below hb).jP 0 rfl) ((cr.o.below hb).jP 3 rfl) k1 k2 m2 k3 (fun i x hx=>⟨(dy.o.ce i x hx).1,(dy.o.ce i x hx).2.2.1,dy.o.pos i (gZ hx).1⟩) dD);clear k1 k2 k3;go_simp;exact fB HE.o (fun v w' hj h=>hK v w' hj (h.A1 dD))
    refine fP (φ:=TF (zJ tv cv n.length)) [3] (TF.eL _) (fun w hb=>?_) ?_
    . intro v3 h3;intro K hK;go_simp;exact fB (RF.uw h3 dD) hK
    refine fP (φ:=TF (zJ tv cv n.length)) [4] (TF.eL _) (fun w hb=>?_) ?_
    . intro v1 h1 K hK;go_simp;exact hK _ _ bR h1
    refine bA.fi (fun u hb=>?_);rintro v2 _ v3 _ v4 _ _ ⟨s',rfl,fx⟩;obtain rfl:s=s':=IN au.o fx;obtain⟨Z,E,H⟩:=Ib (bT ak.o hb) (af.o.below hb af.o.lt) (M.o.below hb M.o.lt);obtain⟨z0,z1,-⟩:=zc E.o;clear hb fx ak af M;have d:=Hi (bd.o.below Z.o);have f:=d.o.jP 6 rfl;obtain⟨x0,x1,x2⟩:=lQ f;clear f;have T:=d.o.jP 7 rfl;obtain⟨y0,y1,y2⟩:=lQ T;clear T;have u0:=H.o.cell 0;have u1:=H.o.cell 1;simp only[aK,aI,aM]at u0 u1;have b7:=ab.o;have b9:b8≠B0:=fun e=>by subst e;have h1:=(d.o.jP 6 rfl).cell 0;have h2:=E.o.cell 0;rw[h1]at h2;cases h2
    have cb:b8≠bo:=fun e=>by subst e;have h1:=(d.o.jP 7 rfl).cell 0;have h2:=E.o.cell 0;rw[h1]at h2;cases h2
    have dw:=Hi (Ol g1 g2 g3 a1 a2 a3 c1 c2 c3 B n m u (d.o.jP 1 rfl) (d.o.jP 8 rfl) (d.o.jP 3 rfl) n1 n2 n3);go_wp2_with fail
   all_goals
    go_fit dw.o;rintro e wk ⟨rfl,fy⟩;clear dw x0 x1 x2 y0 y1 y2 u0 u1 b7 b9 cb z0 z1;have J:=Hi (d.o.below fy);clear d;have d:=J;clear J;clear fy;have I:=d.o.jP 2 rfl;have m0:wk.cell? ⟨0,0,none⟩=some (.int .i64 (-9)):=I.l0;have m1:wk.cell? ⟨0,1,none⟩=some (.string ⟨#[]⟩):=I.l1;have m2:wk.cell? ⟨0,2,none⟩=some (.string ⟨#[]⟩):=I.l2;clear I;have hn:=Hi (Ri gl al cl ls (-9) ⟨#[]⟩ ⟨#[]⟩ wk (d.o.jP 9 rfl) (d.o.jP 4 rfl) c8);go_wp2_with fail;clear m0 m1 m2;go_fit hn.o;rintro e wl ⟨rfl,fz⟩;have J:=Hi (d.o.below fz);clear d;have d:=J;clear J;clear fz;have ho:=Hi (YM gq aq cq qs oJ wl (d.o.jP 10 rfl) (d.o.jP 5 rfl) eb);go_wp2_with fail;go_fit ho.o;rintro e wm ⟨rfl,ga⟩;have J:=Hi (d.o.below ga);clear d;have d:=J;clear J;clear ga;go_wp2;go_ret;exact⟨rfl,d.o.base⟩
section
open Go.ChangeShapes Go.WideShapes Go.ChangeAt Go.RowKit
theorem OF{H:Type}:∀a:Ap,bW a<=Rows.uptoBulkAll (a.map (uB (H:=H)))
 | []=>by simp[bW,Rows.uptoBulkAll]
 |s :: l=>by have b:=OF (H:=H) l;have c:=(JW (H:=H) s).2;simp only[bW,dY,Rows.uptoBulkAll];omega
theorem OE{H:Type}:∀a:Ak,hW a<=Rows.uptoBulkAll (a.map (q8 (H:=H)))
 | []=>by simp[hW,Rows.uptoBulkAll]
 |s :: l=>by have b:=OE (H:=H) l;have c:=(JV (H:=H) s).2;simp only[hW,dY,Rows.uptoBulkAll];omega
def Wi{H:Type}{enc:TypeId × Value->H}{W:Vz}{a:Vx}{b cap:Nat}{d:DataW H}{m:List MemPlace}(hb:Rows.uptoBulk d<=1048576)(h:DataW.Trod enc prog W 0 (fun _=>true) true 28 (.slice a b cap) d m):
 ∃g:Vt,b=g.length/\eO tc W a cap g/\g.length<=1048576/\∀s,s∈ g->s.size<=1048576:=by
 obtain⟨f,h⟩:=h;obtain⟨o,cap',i,e,p,hl,j⟩:=G0 (c:=tc) (dat:=mh) (sz:=1) ⟨#[]⟩ dD (fun _=>rfl) underlying28 CN (fun f t x q=>by
  obtain⟨s,r,rfl,_⟩:=j6 underlying32 q
  exact⟨s,r,rfl⟩) h
 have l: [Value.slice a b cap]= [Value.slice o i.length cap']:=e;simp only[iV,jE,BR]at l;obtain⟨rfl,rfl,rfl⟩:=l;have k:=Dr hb hl j;have n:=GF (H:=H) mh (fun e=>by simp[mh,Rows.uptoBulk]) i;refine⟨i,rfl,p,oO,fun s j=>?_⟩;have u:=Hw (H:=H) mh j;have v:=Tb (H:=H) s;omega
def Wg(a:Vt)(c:∀s,s∈ a->s.size<=1048576):∃q:cW,∀(i:Nat)(s:Vs),a[i]?=some s->il s.data.toList (q i)/\s.size<=1048576:=by
 have d:∀k:Nat,∃q:Rat,∀s,a[k]?=some s->il s.data.toList q:=fun k=>by
  cases hk:a[k]? with
  |none=>exact⟨0,fun s h=>by cases h⟩
  |some s=> obtain⟨q,b⟩:=j9 s.data.toList;exact⟨q,fun e h=>by cases h;exact b⟩
 obtain⟨q,b⟩:=gQ d;exact⟨q,fun k s hk=>⟨b k s hk,c s (mO hk)⟩⟩
namespace giveSays
def Wf(H:Type)(enc:TypeId × Value->H)(W:Vz)(base:Nat)(a:Vw)(w y:List (DataW H))(f:List MemPlace)(c:∀(j:Nat) t v,Tryz.f3.params[j]?=some t->a[j]?=some v->Value.okWide prog W .any base t v)(hW:DataW.Whole enc prog Tryz.f3.params.toList Rows.giveSaysSpec.vars false W a.toList w y f)(hk:Rows.uptoSmall H (w++y)=true)(hG:jq W)(M:kS W)(N:ug W):
 Calls prog 3 a W fun e o=>∃v,e=.returned v/\Rows.giveSaysSpec.post enc prog Tryz.f3 false true false false W a v o:=by
 have k:=hW;obtain⟨p,q,m,O,rfl,P,Q⟩:=hW;have z:=m;rw[Tryz.params3]at z c;obtain⟨R,S,T,d0,d1,d2,A,B,C,rfl,rfl,rfl,D,E,F⟩:=trodAll_three z;obtain⟨rfl,rfl⟩:=trodVars_none O;clear m;obtain⟨cs,rfl,U⟩:=okWide_struct underlying26 (c 0 26 R rfl rfl);obtain⟨V,ll,X,rfl⟩:=okWide_slice underlying27 (c 1 27 S rfl rfl);obtain⟨Y,lm,Z,rfl⟩:=okWide_slice underlying28 (c 2 28 T rfl rfl);unfold Rows.uptoSmall at hk;have hb:=lz hk;rw[mU]at hb;obtain⟨a1,a2,a3,c1,c2,c3,G,I,J,rfl,hf,hz,n1,n2,n3,aa⟩:=Ta (aE (J0 sS) hb) D;obtain⟨n,rfl,hl,ab⟩:=Sn E;obtain⟨K,rfl,hm,r,s⟩:=Wi (aE (J0 sS) hb) F;have L:Rows.uptoBulk d0+(Rows.uptoBulk d1+Rows.uptoBulk d2)<=1048576:=by have:=hb;simp only[Rows.uptoBulkAll]at this;omega
 have hj:=MS (H:=H) G;have ad:=OF (H:=H) I;have ae:=OE (H:=H) J;obtain⟨tv,u⟩:=Wg K s;have hw:=MT (H:=H) n;have hn:=GF (H:=H) rN (fun e=>(MU e).1) n;obtain⟨vs,hv⟩:=LVal.ex n (fun l h=>by have:=Qo h;omega);have g:=fun x i=>k.lt x i
 refine(Wj a1 a2 a3 V Y c1 c2 c3 X Z G I J n vs K tv W hG M N hf hz hl hv hm u n1 n2 n3 oO r oO).mono ?_;rintro e o ⟨rfl,d⟩;refine⟨_,rfl,[d0,d1,d2],[],A++B++C++ [],[],A++(B++(C++ [])),[],k,trodAll_cons_mk (shut_bool underlying4 _) trodAll_mk0,?_,rfl,d.frame _,fun h=>by cases h⟩
 show DataW.TrodAll enc prog o 0 (fun b=>decide (b<W.heap.size)) true Tryz.f3.params.toList _ [d0,d1,d2] _
 rw[Tryz.params3];exact trodAll_cons_mk (Below.trod J1 Td Tc D d (fun x i=>g x (by simp[i])))
  (trodAll_cons_mk (Below.trod J1 S9 S8 E d (fun x i=>g x (by simp[i]))) (trodAll_cons_mk (Below.trod J1 Si Sh F d (fun x i=>g x (by simp[i]))) trodAll_mk0))
def glob{W:Vz}(b:laidMetH prog Rows.giveSaysUptoRow.laid W)(a:W.ShapedOpen prog):jq W:=
 ⟨Sy a,fun _=>Sz (wW (wW (show laidMet prog Rows.giveSaysUptoRow.laid W from b)))⟩
def mark{W:Vz}(a:laidMetH prog Rows.giveSaysUptoRow.laid W):kS W:=
 Sj (wW (wW (wW (wW (show laidMet prog Rows.giveSaysUptoRow.laid W from a)))))
def Gt{W:Vz}(a:laidMetH prog Rows.giveSaysUptoRow.laid W):ug W:=
 Vh (wW (wW (wW (wW (wW (wW (wW (show laidMet prog Rows.giveSaysUptoRow.laid W from a))))))))
end giveSays
def vd(w:Vz):World:=
 put 10 Rows.laid_math_bits_deBruijn32tab (put 11 Rows.laid_math_bits_deBruijn64tab (put 9 Rows.laid_internal_strconv_uint64pow10
  (put 8 Rows.laid_unicode_utf8_acceptRanges (put 7 Rows.laid_unicode_utf8_first (put 1 Rows.laid_rafter_raftersame_Spot (put 2 Rows.laid_rafter_raftersame_Bar (put 3 Rows.laid_rafter_raftersame_Hold (put 0 Rows.laid_rafter_raftersame_Load w))))))))
end
namespace giveSays
open Go.ChangeShapes Go.WideShapes Go.ChangeAt Go.RowKit
set_option linter.unusedVariables false
set_option linter.unusedSimpArgs false
def We(a:Os):laidMet prog Rows.giveSaysUptoRow.laid ((vd (World.holding prog a ⟨#[],#[],[]⟩)).forCall (fun _ _=>0) ⟨#[],#[.agg #[.slice none 0 0,.slice none 0 0,.slice none 0 0],.slice none 0 0,.slice none 0 0],[]⟩).memory:=
 laidMet_of_run' 8 kK kK
def reads(a:Os){H:Type}(enc:TypeId × Value->H):∃li,DataW.whole enc prog ((vd (World.holding prog a ⟨#[],#[],[]⟩)).forCall (fun _ _=>0) ⟨#[],#[.agg #[.slice none 0 0,.slice none 0 0,.slice none 0 0],.slice none 0 0,.slice none 0 0],[]⟩).memory Tryz.f3.params.toList Rows.giveSaysSpec.vars false #[Value.agg #[.slice none 0 0,.slice none 0 0,.slice none 0 0],.slice none 0 0,.slice none 0 0].toList 8=some ([.agg [.nil,.nil,.nil],.nil,.nil],[],li):=
 ⟨[],kK⟩
def Wc(d:Os)(a:d.Started)(H:Type)(enc:TypeId × Value->H)(F:Stop.Interp):
 ReturnsInHanded {} Tryz.checked d 3 .any ((Rows.OpenSpec.upto Rows.giveSaysSpec).preRow enc prog Tryz.f3 Rows.giveSaysUptoRow.domain false Rows.giveSaysUptoRow.laid) (((Rows.OpenSpec.upto Rows.giveSaysSpec).at F).post enc prog Tryz.f3 false true false false):=by
 obtain⟨li,i⟩:=reads d enc;refine returnsInHanded_of_row (C:=Tryz.checked) (s:=Rows.OpenSpec.upto Rows.giveSaysSpec) own a kK func3
  (witness_row_at (enc:=enc) (C:=Tryz.checked) false (vd (World.holding prog d ⟨#[],#[],[]⟩)) #[.agg #[.slice none 0 0,.slice none 0 0,.slice none 0 0],.slice none 0 0,.slice none 0 0] rfl kK kK kK
    (OpenSpec.preRow_of_cond 8 i kK (fun k hk=>by cases hk;kernel_rfl) kK (We d))) ?_
 intro W base e j l b f hW _ c _ g h _;exact Wf H enc W base e j l b f hW (c _ rfl) (glob g h) (mark g) (Gt g)
end giveSays
namespace giveSays
open Go.ChangeShapes Go.WideShapes Go.ChangeAt Go.RowKit
set_option linter.unusedVariables false
set_option linter.unusedSimpArgs false
def closed:joinedFacts prog 3 Tryz.f3 (Rows.OpenSpec.upto Rows.giveSaysSpec).bare Rows.giveSaysUptoRow=true:=by
 unfold joinedFacts;simp only[mr]
 repeat' with_reducible apply cZ
 all_goals (as_aux_lemma=>kernel_rfl)
def named:prog.funcNamed Rows.giveSaysUptoRow.func=some 3:=kK
def said:Rows.GiveSaysUptoSaid:=
 OpenClaim.holds_of_cond 3 Tryz.f3 rfl rfl rfl rfl rfl rfl rfl ⟨rfl,rfl,rfl,rfl,rfl⟩ rfl rfl rfl rfl rfl named func3 closed
  (lz kK) (by unfold Func.isWrapper;first|(rw [aN (by decide +kernel)];kernel_rfl)|(rw [aH (by decide +kernel)];exact⟨rfl,rfl⟩))
  (fun b a H enc _ F=>by rw[OpenClaim.pre_eq_preRow];exact Wc b a H enc F)
def plain(f:FuncId)(a:Func)(d:Tryz.pinned.checked.prog.funcNamed "rafter/rafterlaw.GiveSays" =some f)(b:Tryz.pinned.checked.prog.funcs[f]?=some a):
 false=Tryz.pinned.checked.prog.looks []/\∀(j:Nat) t,a.params[j]?=some t->Tryz.pinned.checked.prog.wantsStandIn t=false:=by
 obtain rfl:f=3:=aD ((show prog.funcNamed "rafter/rafterlaw.GiveSays" =some 3 by kernel_rfl).symm.trans d) |>.symm;obtain rfl:a=Tryz.f3:=(aD (func3.symm.trans b)).symm;refine⟨kK,fun j t c=>?_⟩;rw[Tryz.params3]at c;have:=uA c;simp only[List.mem_toArray,aY,dI,ji]at this;rcases this with rfl|rfl|rfl
 . exact(show prog.wantsStandIn 26=false by kernel_rfl)
 . exact(show prog.wantsStandIn 27=false by kernel_rfl)
 . exact(show prog.wantsStandIn 28=false by kernel_rfl)
end giveSays
theorem giveSays_upto:Rows.GiveSaysUptoCardSaid:=
 Claim7.holds_tied_plain_at .later [] _ _ _ _ giveSays.said (fun _ h=>by cases h) kK (fun _ h=>by cases h) giveSaysUpto_row_tie rfl ⟨rfl,rfl⟩ kK rfl giveSays.plain kK
end Go.Proofs.YtfgclhpgdanmfaaGreatDoor
