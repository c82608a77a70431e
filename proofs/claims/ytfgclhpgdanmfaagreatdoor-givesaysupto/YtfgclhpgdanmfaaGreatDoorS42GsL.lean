import Derived.Test.YtfgclhpgdanmfaaGreatDoorS41GqC
namespace Go.Proofs.YtfgclhpgdanmfaaGreatDoor
set_option linter.defProp false
open Go.RowKit
open Go.Proofs.Tryz
set_option linter.unusedSimpArgs false
set_option linter.unusedVariables false
set_option maxHeartbeats 8000000
set_option maxRecDepth 1000000
variable{B b c d:Nat}{w:Vz}{a xs:Vv}
def OT{e:Nat}(f:jq w)(g:ja w (some ⟨c,0,none⟩) (some ⟨d,0,none⟩) (some ⟨e,0,none⟩) 3 2 4 mF yP zI):pG w (some ⟨c,0,none⟩) (some ⟨d,0,none⟩) (some ⟨e,0,none⟩) 3 2 4 6 mF yP zI nM mw (fun _=>1) (fun _=>0) (fun _=>0):=by
 refine⟨f,g,WT,fun i b hb=>?_,fun i h a=>?_,rfl⟩
 .
  match i,hb with
  |0,hb=>cases hb;exact⟨rL,qZ,dD,dD⟩
  |1,hb=>cases hb;exact⟨rL,qZ,dD,dD⟩
  |n+2,hb=>cases hb
 .
  match i,a with
  |0,a=>cases a;exact⟨qZ,dD⟩
  |1,a=>cases a;exact⟨qZ,dD⟩
  |2,a=>cases a;exact⟨qZ,dD⟩
  |3,a=>cases a;exact⟨qZ,dD⟩
  |n+4,a=>cases a
def EZ:Fact:=fun v w=>∃(g1 g2 g3:Nat)(C:Vw),v=.tuple #[.agg #[.slice (some ⟨g1,0,none⟩) 3 3,.slice (some ⟨g2,0,none⟩) 2 2,.slice (some ⟨g3,0,none⟩) 4 4],.agg #[.int .i64 0,.int .i64 0]]/\
     SB w g1 34 C/\C[0]?=some (.string ⟨#[49]⟩)/\C[1]?=some (.string ⟨#[50]⟩)/\SB w g2 32 (iq [⟨#[45,49]⟩,⟨#[45,50]⟩]).toArray
def EZ.mW:nC (sI 72 47 B xs a) EZ:=fun _ _ _ hb ⟨b,c,d,C,e,f,g,h,i⟩=>⟨b,c,d,C,e,hb.sb f dD dD,g,h,hb.sb i dD dD⟩
def I7:Fact:=fun v w=>∃(g1 g2 g3:Nat)(C:Vw),v=.agg #[.slice (some ⟨g1,0,none⟩) 3 3,.slice (some ⟨g2,0,none⟩) 2 2,.slice (some ⟨g3,0,none⟩) 4 4]/\
     SB w g1 34 C/\C[0]?=some (.string ⟨#[49]⟩)/\C[1]?=some (.string ⟨#[50]⟩)/\SB w g2 32 (iq [⟨#[45,49]⟩,⟨#[45,50]⟩]).toArray
def I7.mW:nC (sI 72 47 B xs a) I7:=fun _ _ _ hb ⟨b,c,d,C,e,f,g,h,i⟩=>⟨b,c,d,C,e,hb.sb f dD dD,g,h,hb.sb i dD dD⟩
def WM{a:Nat}(f:jq w)(g:ja w (some ⟨a,0,none⟩) (some ⟨b,0,none⟩) (some ⟨c,0,none⟩) 3 2 4 mF yP zI)(hl:SB w d 36 #[.int .i64 0,.string ⟨#[49]⟩,.string ⟨#[50]⟩]):
 Calls prog 13 #[.agg #[.slice (some ⟨a,0,none⟩) 3 3,.slice (some ⟨b,0,none⟩) 2 2,.slice (some ⟨c,0,none⟩) 4 4],.slice (some ⟨d,0,none⟩) 1 1] w (cS w EZ):=
 (OY (some ⟨a,0,none⟩) (some ⟨b,0,none⟩) (some ⟨c,0,none⟩) (some ⟨d,0,none⟩) 3 2 4 1 6 1 900000 1 900000 4000000 10 mF yP zI nM mw (fun _=>1) (fun _=>0) (fun _=>0) Mn sw w (OT f g) OV OU (hl.tL rfl dD) dD rfl WS WP dD dD (WQ 899999) dD dD dD).mono fun e w' h=>by obtain⟨i,j,k,C,rfl,k1,k2,l,m,hb⟩:=WN h;exact⟨_,rfl,hb,i,j,k,C,rfl,k1,k2,l,m⟩
def WL{f:Nat}(g:jq w)(h:ja w (some ⟨c,0,none⟩) (some ⟨d,0,none⟩) (some ⟨f,0,none⟩) 3 2 4 mF yP zI)(hl:SB w b 32 (iq [⟨#[45,49]⟩,⟨#[45,50]⟩]).toArray):
 Calls prog 17 #[.agg #[.slice (some ⟨c,0,none⟩) 3 3,.slice (some ⟨d,0,none⟩) 2 2,.slice (some ⟨f,0,none⟩) 4 4],.slice (some ⟨b,0,none⟩) 2 2] w (cS w (Is (.tuple #[.string ⟨#[53,47,50]⟩,.agg #[.int .i64 0,.int .i64 0]]))):=
 (OW (some ⟨c,0,none⟩) (some ⟨d,0,none⟩) (some ⟨f,0,none⟩) (some ⟨b,0,none⟩) 3 2 4 2 6 10 4194325 mF yP zI nM mw (fun _=>1) (fun _=>0) (fun _=>0) (vec [-1,-2]) [⟨#[45,49]⟩,⟨#[45,50]⟩] w (OT g h) OV OU ⟨fun j u k=>⟨b,0,rfl,hl.lt,by rw[cC,hl.cell];simpa using k⟩⟩ rfl (fun i s a=>by
   match i,a with
   |0,a=>cases a;exact⟨Mm.uV,dD,by decide +kernel,by decide +kernel⟩
   |1,a=>cases a;exact⟨Gn.uV,dD,by decide +kernel,by decide +kernel⟩
   |n+2,a=>cases a) (1 / 2) tW.uV dD dD dD).mono fun e w' ⟨⟨s,l,a⟩,hb⟩=>by
   have m:dot yP.length (vec [-1,-2]) (fun i=>vec [-1,-2] i / 1)*(1 / 2)=5 / 2:=by decide +kernel
   rw[m]at a;obtain rfl:=GO a JJ;exact⟨_,l,hb,rfl⟩
def I6:Fact:=fun v w=>∃b:Nat,v=.slice (some ⟨b,0,none⟩) 1 1/\SB w b 36 #[.int .i64 0,.string ⟨#[49]⟩,.string ⟨#[50]⟩]
def I6.mW:nC (sI 72 47 B xs a) I6:=fun _ _ _ hb ⟨b,e,h⟩=>⟨b,e,hb.sb h dD dD⟩
def Ht(l:Vt):Fact:=fun v w=>∃b:Nat,v=.slice (some ⟨b,0,none⟩) l.length l.length/\SB w b 32 (iq l).toArray
def Ht.eL(l:Vt):mP (Ht l):=fun _ _ _ hb ⟨b,e,h⟩=>⟨b,e,h.below hb h.lt⟩
def OS(s t:Vs)(w:Vz):Calls prog 26 #[.string s,.string t] w (cS w (Is (.agg #[.string s,.string t]))):=(Gz s t w).mono fun e w' ⟨a,hb⟩=>⟨_,a,hb,rfl⟩
def WK{a b:Vx}{l:Vt}(f:nz w a l)(g:nz w b l)(h:l.length<=1000000):Calls prog 27 #[.slice a l.length c,.slice b l.length d] w (cS w (Is (.bool true))):=(Lx a b c d l w f g h).mono fun e w' ⟨i,hb⟩=>⟨_,i,hb,rfl⟩
def WJ(w:Vz)(hg:jq w):Calls prog 4 #[] w fun e w'=>e=.returned (.bool true)/\Below w.heap.size w w':=by
 have HG:=Hi hg;clear hg;go_enter func4,ntmps4;go_wp2_with fail;go_fit (Gz ⟨#[48]⟩ ⟨#[48]⟩ w);rintro e w1 ⟨rfl,hb⟩;have T:=Hi hb;clear hb;go_wp2_with fail;go_fit (Gz ⟨#[49]⟩ ⟨#[48]⟩ w1);rintro e w2 ⟨rfl,hb⟩;have U:=Hi (T.o.trans (hb.mono T.o.size));clear hb T;go_wp2_with fail;go_fit (Gz ⟨#[48]⟩ ⟨#[49]⟩ w2);rintro e P ⟨rfl,hb⟩;have ak:=Hi (U.o.trans (hb.mono U.o.size));clear hb U;obtain⟨g1,t⟩:=nm P.heap.size;obtain⟨A2,I⟩:=nm (g1+1);obtain⟨A3,V⟩:=nm (A2+1);obtain⟨BF,al⟩:=nm (A3+1);obtain⟨J,g⟩:=nm (((P.alloc (.cells #[.string ⟨#[48]⟩,.string ⟨#[48]⟩,.string ⟨#[49]⟩,.string ⟨#[48]⟩,.string ⟨#[48]⟩,.string ⟨#[49]⟩] 34)).alloc (.cells #[.int .i64 0,.int .i64 1,.string ⟨#[49]⟩,.string ⟨#[]⟩,.string ⟨#[]⟩,.string ⟨#[]⟩,.int .i64 0,.int .i64 2,.string ⟨#[49]⟩,.string ⟨#[]⟩,.string ⟨#[]⟩,.string ⟨#[]⟩] 72)).alloc (.cells #[.int .i64 1,.int .i64 1,.string ⟨#[]⟩,.int .i64 1,.int .i64 2,.string ⟨#[]⟩,.int .i64 2,.int .i64 1,.string ⟨#[]⟩,.int .i64 2,.int .i64 2,.string ⟨#[]⟩] 74));have hz3:J.heap.size=BF:=by rw[<-g];simp only[bH];omega
 have s1:SB J g1 34 #[.string ⟨#[48]⟩,.string ⟨#[48]⟩,.string ⟨#[49]⟩,.string ⟨#[48]⟩,.string ⟨#[48]⟩,.string ⟨#[49]⟩]:=by rw[<-g,<-t];exact((cK P _ _).alloc _).alloc _
 have s2:SB J A2 72 #[.int .i64 0,.int .i64 1,.string ⟨#[49]⟩,.string ⟨#[]⟩,.string ⟨#[]⟩,.string ⟨#[]⟩,.int .i64 0,.int .i64 2,.string ⟨#[49]⟩,.string ⟨#[]⟩,.string ⟨#[]⟩,.string ⟨#[]⟩]:=by rw[<-g,<-I,<-t];exact(ww P _ _ _).alloc _
 have s3:SB J A3 74 #[.int .i64 1,.int .i64 1,.string ⟨#[]⟩,.int .i64 1,.int .i64 2,.string ⟨#[]⟩,.int .i64 2,.int .i64 1,.string ⟨#[]⟩,.int .i64 2,.int .i64 2,.string ⟨#[]⟩]:=by rw[<-g,<-V,<-I,<-t];have h:=ww (P.alloc (.cells #[.string ⟨#[48]⟩,.string ⟨#[48]⟩,.string ⟨#[49]⟩,.string ⟨#[48]⟩,.string ⟨#[48]⟩,.string ⟨#[49]⟩] 34)) (.cells #[.int .i64 0,.int .i64 1,.string ⟨#[49]⟩,.string ⟨#[]⟩,.string ⟨#[]⟩,.string ⟨#[]⟩,.int .i64 0,.int .i64 2,.string ⟨#[49]⟩,.string ⟨#[]⟩,.string ⟨#[]⟩,.string ⟨#[]⟩] 72) 74 #[.int .i64 1,.int .i64 1,.string ⟨#[]⟩,.int .i64 1,.int .i64 2,.string ⟨#[]⟩,.int .i64 2,.int .i64 1,.string ⟨#[]⟩,.int .i64 2,.int .i64 2,.string ⟨#[]⟩];rw[bH]at h;exact h
 have W:Bl P J:=by rw[<-g];exact(lN P _ _).alloc sO _
 obtain⟨Y,hY⟩:=nm ((J.alloc (.cells #[.slice (some ⟨g1,0,none⟩) 3 3,.slice (some ⟨A2,0,none⟩) 2 2,.slice (some ⟨A3,0,none⟩) 4 4] 26)).drew);have A:Bl J Y:=by rw[<-hY];exact(bR.alloc lZ _).drew
 have L:=Hi (ak.o.trans ((W.trans (A.mono W.size)).mono ak.o.size));have p:O (SB Y BF 26 #[.slice (some ⟨g1,0,none⟩) 3 3,.slice (some ⟨A2,0,none⟩) 2 2,.slice (some ⟨A3,0,none⟩) 4 4]):=Hi (by rw[<-hY,<-hz3];exact(cK J _ _).drew);have am:O (ja Y (some ⟨g1,0,none⟩) (some ⟨A2,0,none⟩) (some ⟨A3,0,none⟩) 3 2 4 mF yP zI):=Hi ⟨(s1.below A s1.lt).tL rfl dD,(s2.below A s2.lt).tL rfl dD,(s3.below A s3.lt).tL rfl dD⟩;obtain⟨an,ao,ap⟩:=Ib (p.o.cell 0) (p.o.cell 1) (p.o.cell 2);simp only[aK,aI,aM]at an ao ap;obtain⟨HX,a5,a6,a7,a8,a9⟩:=Ie g t al hY I V;clear g t al hY W A s1 s2 s3 I V hz3;go_wp2_with fail;refine lj.bg (sI 72 47 Y.heap.size [] []) 10 (fun j=>some (bif j == 5 then 19 else bif j == 6 then 25 else bif j == 7 then 26 else bif j == 8 then 2 else bif j == 9 then 3 else 20+j)) ?_;rw[HX.o];simp only[a5.o,a8.o,a9.o,a6.o];rw[a7.o];have i:qF (sI 72 47 Y.heap.size [] []):=sI.ok;refine lj.pu i (c:=?_) [] (fun w hb=>?_) ?_;rotate_left
 . intro K a;replace hb:=hb.below lZ;obtain⟨d0,d1,d2⟩:=Jb hb p.o.lt an.o ao.o ap.o;go_simp;exact a
 refine CX (φ:=Is (.agg #[.string ⟨#[49]⟩,.string ⟨#[50]⟩])) [] (Is.mW _ _) (fun w hb=>?_) ?_
 . intro K a;go_simp;exact fB (OS _ _ _) (fun v w' X h=>a v w' (sI.eK X) h)
 refine lj.pu i (c:=?_) [1] (fun w hb=>?_) ?_;rotate_left
 . intro K a;go_simp;exact a
 refine CX (φ:=I6) [2] I6.mW (fun w hb=>?_) ?_
 . intro K a;go_simp;exact a _ _ (sI.eK (bR.alloc lZ _)) ⟨w.heap.size,rfl,cK w _ _⟩
 refine CX (φ:=EZ) [0,3] EZ.mW (fun w hb=>?_) ?_
 . rintro v3 ⟨bl,rfl,hl⟩;intro K a;go_simp;exact fB (WM (HG.o.below (L.o.trans ((hb.below lZ).mono L.o.size))) (am.o.below (hb.below lZ)) hl) (fun v w' X h=>a v w' (sI.eK X) h)
 refine CX (φ:=EZ) [4] EZ.mW (fun w hb=>?_) ?_
 . intro v4 h4 K a;go_simp;exact a _ _ (i.refl _) h4
 refine CX (φ:=I7) [5] I7.mW (fun w hb=>?_) ?_
 . rintro v4 ⟨h1,f,Z,C,rfl,h⟩;intro K a;go_simp;exact a _ _ (i.refl _) ⟨h1,f,Z,C,rfl,h⟩
 refine CX (φ:=Is (.agg #[.int .i64 0,.int .i64 0])) [5] (Is.mW _ _) (fun w hb=>?_) ?_
 . rintro v4 ⟨h1,f,Z,C,rfl,h⟩;intro K a;go_simp;exact a _ _ (i.refl _) rfl
 refine CX (φ:=CR 47 3 Y.heap.size) [] CR.mW (fun w hb=>?_) ?_
 . intro K a;go_simp;exact a _ _ (sI.eK (bR.alloc lZ _)) ⟨w.heap.size,_,rfl,hb.size,cK w _ _,rfl⟩
 refine CX (φ:=CQ 41 #[.int .i64 0,.int .i64 0] Y.heap.size) [] (CQ.mW dD dD) (fun w hb=>?_) ?_
 . intro K a;go_simp;exact a _ _ (sI.eK (bR.alloc lZ _)) ⟨w.heap.size,rfl,hb.size,cK w _ _⟩
 refine lj.Jl i [7] aL (by rfl) (by simp only[aK,aI,aM];exact rfl) (by simp only[aK,aI,aM];exact rfl) (by rfl) kK (fun j hj=>?_) (fun u hb=>?_)
 . obtain rfl:=bE.1 hj;refine⟨_,[5],(by simp only[aK,aI,aM];exact rfl),kK,fun w hb=>?_⟩;simp only[iL,cH,bO,j5,ju,sR,Act.put,aU,cN,bX,Nat.reduceAdd,Nat.reduceBEq,gO,fS];rintro v4 ⟨h1,f,Z,C,rfl,h⟩;intro K a;go_simp;exact a
 rw[show mL 10 [7]= [0,1,2,3,4,5,6,8,9] from rfl];simp only[iL,cH,bO,j5,ju,sR,Act.put,aU,cN,bX,Nat.reduceAdd,Nat.reduceBEq,gO,fS];intro v3 _ v4 _ v5 _ v6 h6 v8 h8 v9 h9;obtain⟨g4,g5,g6,C,rfl,hj,aq,ar,ht⟩:=h6;obtain⟨b2,D,rfl,au,f,hz2⟩:=h8;obtain⟨b3,rfl,ba,Z⟩:=h9;obtain⟨d0,d1,d2,rfl⟩:∃d0 d1 d2,D=#[d0,d1,d2]:=by
  match D,hz2 with
  |⟨[x,y,z]⟩,_=>exact⟨x,y,z,rfl⟩
 have c0:=f.cell 0;have c1:=f.cell 1;have c2:=f.cell 2;simp only[aK,aI,aM]at c0 c1 c2;have f0:=f.free 0;have f1:=f.free 1;have f2:=f.free 2;have q:=((f.set 0 (.slice (some ⟨g4,0,none⟩) 3 3)).set 1 (.slice (some ⟨g5,0,none⟩) 2 2)).set 2 (.slice (some ⟨g6,0,none⟩) 4 4);simp only[aU,cN,bX]at q;have k:=(((cX b2 u).setCell 0 (.slice (some ⟨g4,0,none⟩) 3 3)).setCell 1 (.slice (some ⟨g5,0,none⟩) 2 2)).setCell 2 (.slice (some ⟨g6,0,none⟩) 4 4);obtain⟨U1,aa⟩:=nm (((u.setCell ⟨b2,0,none⟩ (.slice (some ⟨g4,0,none⟩) 3 3)).setCell ⟨b2,1,none⟩ (.slice (some ⟨g5,0,none⟩) 2 2)).setCell ⟨b2,2,none⟩ (.slice (some ⟨g6,0,none⟩) 4 4));rw[aa]at q k;have d:=Z.only k (Z.unlike f dD);have ab:=hj.only k (hj.unlike f dD);have ad:=ht.only k (ht.unlike f dD);have av:=fU (hb.below lZ) k au;have bb:O (sI 72 47 Y.heap.size [] [] u U1):=Hi (sI.iw k f q rfl au dD);have e0:=d.cell 0;have e1:=d.cell 1;simp only[aK,aI,aM]at e0 e1;have k0:=d.free 0;have k1:=d.free 1;have ae:=(d.set 0 (.int .i64 0)).set 1 (.int .i64 0);have r:=((cX b3 U1).setCell 0 (.int .i64 0)).setCell 1 (.int .i64 0);obtain⟨U2,af⟩:=nm ((U1.setCell ⟨b3,0,none⟩ (.int .i64 0)).setCell ⟨b3,1,none⟩ (.int .i64 0));rw[af]at ae r;have B:=Hi (sU ae);have m:=Hi (q.only r (q.unlike d dD));have E:=Hi (ab.only r (ab.unlike d dD));have n:=Hi (ad.only r (ad.unlike d dD));obtain⟨ag,HC,bc,bd⟩:=Ic (fU av r ba) (cZ aq ar) aa af;clear q d ab ad k r av ae hj ht aq ar f Z hb aa af i hz2;intro K1 aw;go_simp;rw[bc.o];refine aw _ bb.o ?_;intro K2 ax;clear aw c0 c1 c2 f0 f1 f2;go_simp;refine ax _ _ ?_;clear ax e0 e1 k0 k1;rw[bd.o];have M:=p.o.below ag.o p.o.lt;have x0:=M.cell 0;have x1:=M.cell 1;have x2:=M.cell 2;have x3:=m.o.cell 1;simp only[aK,aI,aM]at x0 x1 x2 x3;have ah:=Hi (L.o.trans (ag.o.mono L.o.size));have ay:=Hi (WL (HG.o.below ah.o) (am.o.below ag.o) n.o);clear M;go_wp2_with fail;refine fB ay.o ?_;rintro _ w5 ai rfl;clear x0 x1 x2 x3;obtain⟨b5,F⟩:∃b5,w5.heap.size=b5:=⟨_,rfl⟩;obtain⟨U5,N⟩:=nm ((w5.alloc (.cells #[.int .i64 0,.int .i64 0] 41)).drew);have s:Bl U2 U5:=by rw[<-N];exact(ai.alloc ai.size _).drew
 have az:O (SB U5 b5 41 #[.int .i64 0,.int .i64 0]):=Hi (by rw[<-N,<-F];exact(cK w5 _ _).drew);obtain⟨a0,G,aj,a1,a2,be,bf⟩:=If (B.o.below s B.o.lt) (m.o.below s m.o.lt) (E.o.below s E.o.lt) (n.o.below s n.o.lt) (ah.o.trans (s.mono ah.o.size)) F N;clear ai F N s B m E n ay;go_wp2_with fail;refine ou 33 (fun j=>some (35+j)) ?_;rw[bf.o,be.o];obtain⟨Q,R,H,S,a3,a4⟩:=Ie (a0.o.cell 0) (az.o.cell 0) (G.o.cell 0) (G.o.cell 1) ((aj.o.cell 0).trans HC.o.1) ((aj.o.cell 1).trans HC.o.2);simp only[aK,aI,aM]at Q R H S;refine cV [] ?_;refine gJ (c:=?_) [0] (fun w hb=>?_) ?_;rotate_left
 . intro K a;have d0:=ce hb a0.o.lt Q.o;go_simp;exact a
 refine cV [1] ?_;refine cV [2] ?_;refine cV [3] ?_;refine gJ (c:=?_) [4,3] (fun w hb=>?_) ?_;rotate_left
 . intro K a;have d0:=ce hb az.o.lt R.o;go_simp;exact a
 refine cV [5,3] ?_;refine cV [3,6] ?_;refine cV [7] ?_;refine cV [8] ?_;refine gJ (c:=?_) [9,8] (fun w hb=>?_) ?_;rotate_left
 . intro K a;have d0:=ce hb G.o.lt H.o;go_simp;exact a
 refine cV [10,8] ?_;refine cV [11,8] ?_;refine cV [8,12] ?_;refine cV [13] ?_;refine cV [14] ?_;refine gJ (c:=?_) [15,14] (fun w hb=>?_) ?_;rotate_left
 . intro K a;have d0:=ce hb G.o.lt H.o;go_simp;exact a
 refine cV [16,14] ?_;refine gJ (c:=?_) [17,14] (fun w hb=>?_) ?_;rotate_left
 . intro K a;obtain⟨d0,d1⟩:=Ja hb aj.o.lt a3.o a4.o;go_simp;exact a
 refine fP (φ:=Is (.agg #[.string ⟨#[49]⟩,.string ⟨#[50]⟩])) [14] (Is.eL _) (fun w hb=>?_) ?_
 . intro K a;go_simp;exact fB (OS _ _ _) a
 refine cV [18,19,14] ?_;refine cV [14,20] ?_;refine cV [21] ?_;refine cV [22] ?_;refine cV [23,22] ?_;refine gJ (c:=?_) [24,22] (fun w hb=>?_) ?_;rotate_left
 . intro K a;have d0:=ce hb G.o.lt S.o;go_simp;exact a
 refine fP (φ:=Ht [⟨#[45,49]⟩,⟨#[45,50]⟩]) [22] (Ht.eL _) (fun w hb=>?_) ?_
 . intro K a;go_simp;exact a _ _ (bR.alloc lZ _) ⟨w.heap.size,rfl,cK w _ _⟩
 refine fP (φ:=Is (.bool true)) [25,26,22] (Is.eL _) (fun w hb=>?_) ?_
 . rintro v ⟨b,rfl,hs⟩;intro K a;go_simp;exact fB (WK (l:=[⟨#[45,49]⟩,⟨#[45,50]⟩]) (SB.zY (a1.o.below hb a1.o.lt)) (SB.zY hs) dD) a
 refine cV [22,27] ?_;refine cV [28] ?_;refine cV [29] ?_;refine cV [30,29] ?_;refine cV [29,31] ?_;refine qr aL (by rfl) (by rfl) kK (fun x9 hb=>?_);simp only[nE,cH,bO,sR,Act.put,aU,cN,bX,Nat.reduceAdd,Nat.reduceBEq,gO,fS];intro bi _ K a;go_simp;refine a _ _ ?_;have bh:=Hi (a2.o.trans (hb.mono a2.o.size));clear a hb;go_wp2;go_ret;exact⟨rfl,bh.o⟩
theorem Lp{vs:Ai}(h:∀p,p∈ vs->Fits p.2.1 4194305/\Fits p.2.2 4194305):∀k i,Fits (pJ (vs.take k) i) (k*4194306+1)
 |0,i=>nr.mono oO
 |k+1,i=>by
  have a:=Lp h k;cases hp:vs[k]? with
  |none=>
   have e:vs.take (k+1)=vs.take k:=by rw[jU,hp];simp
   rw[e];exact(a i).mono oO
  |some p=>
   have b:=h p (mO hp);rw[Fq hp];by_cases c:i=2*p.1
   . rw[c,vZ]
     exact((a _).sub b.1).mono oO
   .
    by_cases d:i=2*p.1+1
    . rw[d,vW]
      exact((a _).sub b.2).mono oO
    . rw[JQ c d]
      exact(a i).mono oO
def LVal.fits{a:AE}{vs:Ai}(h:LVal a vs)(hl:a.length<=20):∀k i,Fits (pJ (vs.take k) i) 83886121:=fun k i=>by
 have c:∀p,p∈ vs->Fits p.2.1 4194305/\Fits p.2.2 4194305:=fun p f=>by obtain⟨j,d⟩:=dM f;obtain⟨l,b⟩:∃l,a[j]?=some l:=⟨a[j]'(oC ((gZ d).1) h.len),gE _⟩;obtain⟨_,g,m,n,o⟩:=h.at_ j l p b d;exact⟨(g.oA n).mono dD,(m.oA o).mono dD⟩
 rcases bB k 21 with q|q
 . exact(Lp c k i).mono oO
 . have e:vs.take k=vs.take 20:=by rw[bL (oB h.len),bL (oB h.len)]
   rw[e];exact(Lp c 20 i).mono dD
def Xn(w:Vz):Calls prog 33 #[.int .i64 2] w (cS w (RF 2 2)):=(Bp 2 w dD).mono fun e w' h=>h.qw (q:=2) (by exact⟨dD,dD⟩) dD
def Xm(D E F al:Vx)(c1 c2 c3 cl:Nat)(l:Ad)(m:Ap)(n:Ak)(K:AE)(c d:Int)(w:Vz)(hg:jq w)(hf:ja w D E F c1 c2 c3 l m n)(hz:jL l m n)(hl:eO L3.cells w al cl K)(ag:K.length<=9223372036854775807)(ah:dW l m n c d∨dW l m n 0 0/\jI l.length (m.length+n.length) K c d)(hc:c≠0):
 Calls prog 13 #[.agg #[.slice D l.length c1,.slice E m.length c2,.slice F n.length c3],.slice al K.length cl] w fun e w'=>e=.returned (.tuple #[.agg #[.slice none 0 0,.slice none 0 0,.slice none 0 0],.agg #[.int .i64 c,.int .i64 d]])/\Below w.heap.size w w':=by
 obtain⟨HG,HF,HZ,HL,ai⟩:=Id hg hf hz hl hc;clear hg hf hz hl hc;obtain⟨a,q⟩:=nm w.heap.size;obtain⟨x,i⟩:=nm (((w.alloc (.cells #[.slice D l.length c1,.slice E m.length c2,.slice F n.length c3] 26)).alloc (.cells #[.slice none 0 0,.slice none 0 0,.slice none 0 0] 47)).alloc (.cells #[.int .i64 0,.int .i64 0] 41));have b:O (Bl w x):=Hi (by rw[<-i];exact(lN w _ _).alloc sO _);have L:O (SB x a 26 #[.slice D l.length c1,.slice E m.length c2,.slice F n.length c3]):=Hi (by rw[<-i,<-q];exact((cK w _ _).alloc _).alloc _);have M:O (SB x (a+1) 47 #[.slice none 0 0,.slice none 0 0,.slice none 0 0]):=Hi (by rw[<-i,<-q];exact(ww w _ _ _).alloc _);have G:O (SB x (a+1+1) 41 #[.int .i64 0,.int .i64 0]):=Hi (by
  rw[<-i,<-q];have h:=ww (w.alloc (.cells #[.slice D l.length c1,.slice E m.length c2,.slice F n.length c3] 26)) (.cells #[.slice none 0 0,.slice none 0 0,.slice none 0 0] 47) 41 #[.int .i64 0,.int .i64 0];rw[bH]at h
  exact h)
 obtain⟨y,N⟩:=Ia i q;have r:w.heap.size<=a+1:=oO;clear i q;have P:=Hi (Hx D E F c1 c2 c3 l m n x (HG.o.below b.o) (HF.o.below b.o) HZ.o);rcases ah with f|⟨H,s⟩
 rotate_left 1
 focus
  obtain⟨Q,R⟩:=Ia H s;have z:=H.Dd.1;have n1:l.length<=10:=gP fun h=>z (.inr (.inl h))
  have n2:m.length<=24:=gP fun h=>z (.inr (.inr (.inl h)))
  have n3:n.length<=20:=gP fun h=>z (.inr (.inr (.inr h)))
  clear H s z;go_enter func13,ntmps13;go_wp2_with fail;rw[y.o,N.o];clear y;go_fit P.o;rintro e w1 ⟨c',S,rfl,f,j⟩;obtain⟨T,U⟩:=Q.o.inj f;obtain rfl:=T;obtain rfl:=U;obtain⟨V1,t⟩:=nm (w1.alloc (.cells #[.int .i64 0,.int .i64 0] 41));have g:Bl x V1:=by rw[<-t];exact j.alloc j.size _
  have X:=Hi (L.o.below g L.o.lt);obtain⟨x0,x1,x2⟩:=lQ X.o;have k0:V1.cell? ⟨w1.heap.size,0,none⟩=some (.int .i64 0):=by rw[<-t];exact(cK w1 _ _).cell 0
  rw[<-t]at x0 x1 x2 k0;obtain⟨k,C⟩:=Ia (b.o.trans (g.mono b.o.size)) g;obtain⟨aj,Y⟩:=Ia (P9 D E F al c1 c2 c3 cl l.length m.length n.length K V1 (HL.o.below k.o) n1 n2 n3 ag) t;clear t g j X f;go_wp2_with fail;rw[Y.o];go_fit aj.o;rintro e W ⟨c',S,rfl,s,Z⟩;obtain⟨T,U⟩:=R.o.inj s;obtain rfl:=T;obtain rfl:=U;have k:=Hi (C.o.trans (Z.mono C.o.size));clear s Z x0 x1 x2 k0 Y Q R n1 n2 n3
 rotate_left 1
 focus
  have ak:=Hi f;clear f;go_enter func13,ntmps13;go_wp2_with fail;rw[y.o,N.o];clear y;go_fit P.o;rintro e W ⟨c',S,rfl,f,j⟩;obtain⟨T,U⟩:=ak.o.inj f;obtain rfl:=T;obtain rfl:=U;have k:=Hi j;clear f j
 all_goals
  obtain⟨V,J⟩:=nm (W.alloc (.cells #[.int .i64 c,.int .i64 d] 41));have A:Bl x V:=by rw[<-J];exact(k.o).alloc (k.o).size _
  obtain⟨aa,ab,ad⟩:=Ib (M.o.below A M.o.lt) (G.o.below A G.o.lt) (b.o.trans (A.mono b.o.size));obtain⟨bg,u⟩:=nm W.heap.size;have ae:SB V bg 41 #[.int .i64 c,.int .i64 d]:=by rw[<-J,<-u];exact cK W _ _
  obtain⟨k0,k1,-⟩:=zc ae;have am:a+1+1<bg:=oC G.o.lt ((k.o).size);have an:bg≠a+1:=oO;have ao:bg≠a+1+1:=oO;obtain⟨v,B⟩:=Ia (aa.o.below (ac V.heap.size V) aa.o.lt) (ab.o.below (ac V.heap.size V) ab.o.lt);obtain⟨y0,y1,y4,-⟩:=zc v.o;obtain⟨y2,y3,-⟩:=zc B.o;have ap:V.frozen? ⟨a+1,0,none⟩=false:=v.o.free 0;have aq:V.frozen? ⟨a+1,1,none⟩=false:=v.o.free 1;have ar:V.frozen? ⟨a+1,2,none⟩=false:=v.o.free 2;have au:V.frozen? ⟨a+1+1,0,none⟩=false:=B.o.free 0;have av:V.frozen? ⟨a+1+1,1,none⟩=false:=B.o.free 1;obtain⟨aw,ax,ay⟩:=Ib (ad.o.trans (((ac V.heap.size V)).mono ad.o.size)) J u;have e0:(c != 0)=true:=sU ai.o;rw[<-J,<-u]at k0 k1;rw[<-J]at y0 y1 y4 y2 y3 ap aq ar au av;rw[<-u]at an ao;clear J u ae A am;go_wp2;go_region
  all_goals
   go_wp2;rw[ax.o];have af:=Lr (x1:=.slice none 0 0) (x2:=.slice none 0 0) (x3:=.slice none 0 0) (y1:=.int .i64 c) (y2:=.int .i64 d) (by omega:a+1≠a+1+1) v.o B.o;refine bK (L5 rfl _ _ (a+1) (a+1+1) 47 41 #[.slice none 0 0,.slice none 0 0,.slice none 0 0] #[.int .i64 c,.int .i64 d] (0,0) (0,0) _ _ rfl af.1 rfl af.2.1 underlying47 rfl Lq underlying41 rfl iy) rfl ?_;have I:=((((aw.o.setCell (p:=⟨a+1,0,none⟩) r (.slice none 0 0)).setCell (p:=⟨a+1,1,none⟩) r (.slice none 0 0)).setCell (p:=⟨a+1,2,none⟩) r (.slice none 0 0)).setCell (p:=⟨a+1+1,0,none⟩) (no r) (.int .i64 c)).setCell (p:=⟨a+1+1,1,none⟩) (no r) (.int .i64 d);exact⟨rfl,I.drew⟩
namespace Giv
set_option linter.unusedVariables false
theorem EL(W:Nat)(r x:cW):∀M,dot (W+M) r x=dot W r x+dot M (fun k=>r (W+k)) (fun k=>x (W+k))
 |0=>by
  show dot W r x=dot W r x+0
  grind
 |M+1=>by
  show dot (W+M) r x+r (W+M)*x (W+M)=dot W r x+(dot M (fun k=>r (W+k)) (fun k=>x (W+k))+r (W+M)*x (W+M))
  rw[EL W r x M];grind
def gvR(W n nh:Nat)(B:Ae)(c e hb a:cW)(r k:Nat):Rat:=
 if r<W then (if k<W then 0 else if k<W+(n+nh) then B r (k - W) else if k=W+(n+nh) then a r else 0)
 else if r<W+n then (if k<W then c (r - W)* -(B k (r - W)) else if k=r then -1 else if k=W+(n+nh) then c (r - W)*e (r - W) else 0)
 else (if k<W then B k (r - W) else if k=W+(n+nh) then hb (r - W - n) else 0)
def GvOK(W n nh:Nat)(B:Ae)(c e hb a x:cW):Prop:=
 (∀w,w<W->dot (n+nh) (B w) (fun k=>x (W+k))=a w)/\(∀i,i<n->x (W+i)=tOf W B c e x i)/\∀j,j<nh->dot W (fun w=>B w (n+j)) x=hb j
section
variable {W n nh:Nat} {B:Ae} {c e hb a:cW}
def IZ{r:Nat}(b:r<W)(x:cW):dot (W+(n+nh)) (gvR W n nh B c e hb a r) x=dot (n+nh) (B r) (fun k=>x (W+k))/\gvR W n nh B c e hb a r (W+(n+nh))=a r:=by
 refine⟨?_,?_⟩
 .
  rw[EL,yY W _ _ (fun k hk=>by
   have d:gvR W n nh B c e hb a r k=0:=by unfold gvR;rw[aN b,aN hk]
   rw[d]
   grind)]
  rw[rG (n+nh) (fun k=>gvR W n nh B c e hb a r (W+k)) (fun k=>x (W+k)) (B r) (fun k=>x (W+k)) (fun k hk=>by
   show gvR W n nh B c e hb a r (W+k)*x (W+k)=B r k*x (W+k)
   have d:gvR W n nh B c e hb a r (W+k)=B r k:=by unfold gvR;rw[aN b,aH oO,aN oO,fI]
   rw[d])]
  grind
 . unfold gvR
   rw[aN b,aH oO,aH oO,aN rfl]
def IY{i:Nat}(j:i<n)(x:cW):dot (W+(n+nh)) (gvR W n nh B c e hb a (W+i)) x=c i*sOf W B x i - x (W+i)/\gvR W n nh B c e hb a (W+i) (W+(n+nh))=c i*e i:=by
 have b:¬(W+i<W):=oO;have f:W+i<W+n:=oO;refine⟨?_,?_⟩
 .
  rw[EL,rG W (gvR W n nh B c e hb a (W+i)) x (fun w=>B w i) (fun w=>-(c i)*x w) (fun k hk=>by
   have d:gvR W n nh B c e hb a (W+i) k=c i* -(B k i):=by unfold gvR;rw[aH b,aN f,aN hk,fI]
   rw[d]
   show c i* -(B k i)*x k=B k i*(-(c i)*x k)
   grind),xX,B8 (n+nh) _ _ i oO (fun k hk g=>by
   show gvR W n nh B c e hb a (W+i) (W+k)*x (W+k)=0
   have d:gvR W n nh B c e hb a (W+i) (W+k)=0:=by unfold gvR;rw[aH b,aN f,aH oO,aH oO,aH oO]
   rw[d]
   grind)]
  show -(c i)*dot W (fun w=>B w i) x+gvR W n nh B c e hb a (W+i) (W+i)*x (W+i)=c i*sOf W B x i - x (W+i)
  have d:gvR W n nh B c e hb a (W+i) (W+i)= -1:=by unfold gvR;rw[aH b,aN f,aH b,aN rfl]
  rw[d];unfold sOf;grind
 . unfold gvR
   rw[aH b,aN f,aH oO,aH oO,aN rfl,fI]
def IX{j:Nat}(i:j<nh)(x:cW):dot (W+(n+nh)) (gvR W n nh B c e hb a (W+n+j)) x=dot W (fun w=>B w (n+j)) x/\gvR W n nh B c e hb a (W+n+j) (W+(n+nh))=hb j:=by
 have b:¬(W+n+j<W):=oO;have d:¬(W+n+j<W+n):=oO;have g:W+n+j - W=n+j:=oO;refine⟨?_,?_⟩
 .
  rw[EL,rG W (gvR W n nh B c e hb a (W+n+j)) x (fun w=>B w (n+j)) x (fun k hk=>by
   have f:gvR W n nh B c e hb a (W+n+j) k=B k (n+j):=by unfold gvR;rw[aH b,aH d,aN hk,g]
   rw[f]),yY (n+nh) _ _ (fun k hk=>by
   show gvR W n nh B c e hb a (W+n+j) (W+k)*x (W+k)=0
   have f:gvR W n nh B c e hb a (W+n+j) (W+k)=0:=by unfold gvR;rw[aH b,aH d,aH oO,aH oO]
   rw[f]
   grind)]
  grind
 . unfold gvR
   rw[aH b,aH d,aH oO,aN rfl,g,fI]
def gv_iff{x:cW}:(∀r,r<W+(n+nh)->dot (W+(n+nh)) (gvR W n nh B c e hb a r) x=gvR W n nh B c e hb a r (W+(n+nh)))↔GvOK W n nh B c e hb a x:=by
 constructor
 .
  intro h;refine⟨fun w g=>?_,fun i d=>?_,fun j f=>?_⟩
  . have b:=h w oO;rw[(IZ g x).1,(IZ g x).2]at b;exact b
  . have b:=h (W+i) oO;rw[(IY d x).1,(IY d x).2]at b;unfold tOf;grind
  . have b:=h (W+n+j) oO;rw[(IX f x).1,(IX f x).2]at b;exact b
 .
  rintro⟨k1,k2,k⟩ r l;by_cases b:r<W
  . rw[(IZ b x).1,(IZ b x).2]
    exact k1 r b
  . by_cases m:r<W+n
    . obtain⟨i,rfl⟩:∃i,r=W+i:=⟨r - W,oO⟩;have d:i<n:=oO;rw[(IY d x).1,(IY d x).2,k2 i d];unfold tOf;grind
    . obtain⟨j,rfl⟩:∃j,r=W+n+j:=⟨r - W - n,oO⟩;have f:j<nh:=oO;rw[(IX f x).1,(IX f x).2];exact k j f
variable {fr:AH} {hv:cW} {h:AR}
def GvOK.qH{x:cW}(k:GvOK W n nh B c e hb a x)(hB:∀w j,w<W->j<nh->B w (n+j)=if h j=w then 1 else 0)(hW:∀j,j<nh->h j<W)(q:∀w,w<W->fr w=false->∃j,j<nh/\h j=w)(r:∀w j,w<W->fr w=true->j<nh->h j≠w)(l:∀j,j<nh->hv (h j)=hb j):Settles W n B c e fr hv a x:=by
 obtain⟨k1,k2,s⟩:=k;refine⟨fun w b d=>?_,fun w b d=>?_⟩
 .
  obtain⟨j,f,rfl⟩:=q w b d;have g:=s j f;rw[B8 W _ _ (h j) b (fun v m o=>by
   show B v (n+j)*x v=0
   rw[hB v j m f,aH (fun e=>o e.symm)]
   grind)]at g
  have p:B (h j) (n+j)=1:=by rw[hB _ j b f,aN rfl]
  rw[l j f,<-g]
  show x (h j)=B (h j) (n+j)*x (h j)
  rw[p];grind
 .
  have g:=k1 w b;rw[EL n,yY nh _ _ (fun j f=>by
   show B w (n+j)*x (W+(n+j))=0
   rw[hB w j b f,aH (r w j b d f)]
   grind)]at g
  unfold putF;rw[rG n (B w) (tOf W B c e x) (B w) (fun k=>x (W+k)) (fun i t=>by rw[<-k2 i t])];have p:=g;grind
def gvX(W n:Nat)(B:Ae)(c e a:cW)(h:AR)(m:cW):cW:=fun k=> if k<W then m k else if k<W+n then tOf W B c e m (k - W) else a (h (k - W - n)) - putF n B (tOf W B c e m) (h (k - W - n))
def gv_of{m:cW}(k:Settles W n B c e fr hv a m)(hB:∀w j,w<W->j<nh->B w (n+j)=if h j=w then 1 else 0)(hW:∀j,j<nh->h j<W)(s:∀i j,i<nh->j<nh->h i=h j->i=j)(p:∀j,j<nh->fr (h j)=false)(t:∀w,w<W->fr w=false->∃j,j<nh/\h j=w)(l:∀j,j<nh->hv (h j)=hb j):GvOK W n nh B c e hb a (gvX W n B c e a h m):=by
 have q:∀w,w<W->gvX W n B c e a h m w=m w:=fun w f=>by unfold gvX;rw[aN f]
 have r:∀i,i<n->gvX W n B c e a h m (W+i)=tOf W B c e m i:=fun i b=>by unfold gvX;rw[aH oO,aN oO,fI]
 have u:∀j,gvX W n B c e a h m (W+(n+j))=a (h j) - putF n B (tOf W B c e m) (h j):=fun j=>by unfold gvX;rw[aH oO,aH oO,show W+(n+j) - W - n=j by omega]
 refine⟨fun w f=>?_,fun i b=>?_,fun j d=>?_⟩
 .
  rw[EL n,rG n (B w) (fun k=>gvX W n B c e a h m (W+k)) (B w) (tOf W B c e m) (fun i b=>by
   show B w i*gvX W n B c e a h m (W+i)=B w i*tOf W B c e m i
   rw[r i b])]
  show putF n B (tOf W B c e m) w+_=a w
  cases hfw:fr w with
  |true=>
   rw[k.2 w f hfw,yY nh _ _ (fun j d=>by
    show B w (n+j)*gvX W n B c e a h m (W+(n+j))=0
    rw[hB w j f d,aH (fun e=>by rw[<-e,p j d]at hfw;cases hfw)]
    grind)]
   grind
  |false=>
   obtain⟨j,d,rfl⟩:=t w f hfw;rw[B8 nh _ _ j d (fun i b g=>by
    show B (h j) (n+i)*gvX W n B c e a h m (W+(n+i))=0
    rw[hB _ i f b,aH (fun e=>g (s i j b d e))]
    grind)]
   show putF n B (tOf W B c e m) (h j)+B (h j) (n+j)*gvX W n B c e a h m (W+(n+j))=a (h j)
   rw[hB _ j f d,aN rfl,u j];grind
 . rw[r i b];unfold tOf;rw[Pb q i]
 .
  rw[B8 W _ _ (h j) (hW j d) (fun v o g=>by
   show B v (n+j)*gvX W n B c e a h m v=0
   rw[hB v j o d,aH (fun e=>g e.symm)]
   grind)]
  show B (h j) (n+j)*gvX W n B c e a h m (h j)=hb j
  rw[hB _ j (hW j d) d,aN rfl,q _ (hW j d),k.1 _ (hW j d) (p j d),l j d];grind
def GvOK.same{x y:cW}(k:GvOK W n nh B c e hb a x)(l:GvOK W n nh B c e hb a y)(o:∀w,w<W->x w=y w)(hB:∀w j,w<W->j<nh->B w (n+j)=if h j=w then 1 else 0)(hW:∀j,j<nh->h j<W)(s:∀i j,i<nh->j<nh->h i=h j->i=j):∀r,r<W+(n+nh)->x r=y r:=by
 have p:∀i,i<n->x (W+i)=y (W+i):=fun i b=>by rw[k.2.1 i b,l.2.1 i b];unfold tOf;rw[Pb o i]
 intro r A;by_cases t:r<W
 . exact o r t
 .
  by_cases C:r<W+n
  . obtain⟨i,rfl⟩:∃i,r=W+i:=⟨r - W,oO⟩
    exact p i oO
  .
   obtain⟨j,rfl⟩:∃j,r=W+(n+j):=⟨r - W - n,oO⟩;have d:j<nh:=oO;have f:∀z:cW,GvOK W n nh B c e hb a z->dot n (B (h j)) (fun k=>z (W+k))+z (W+(n+j))=a (h j):=fun z u=>by
    have g:=u.1 (h j) (hW j d);rw[EL n,B8 nh _ _ j d (fun i b m=>by
     show B (h j) (n+i)*z (W+(n+i))=0
     rw[hB _ i (hW j d) b,aH (fun e=>m (s i j b d e))]
     grind)]at g
    have q:B (h j) (n+j)=1:=by rw[hB _ j (hW j d) d,aN rfl]
    have v:=g;rw[q]at v;grind
   have g:=f x k;have q:=f y l;rw[rG n (B (h j)) (fun k=>x (W+k)) (B (h j)) (fun k=>y (W+k)) (fun i b=>by
    show B (h j) i*x (W+i)=B (h j) i*y (W+i)
    rw[p i b])]at g
   grind
end
end Giv
end Go.Proofs.YtfgclhpgdanmfaaGreatDoor
