/- For every world that holds the tables, and every frame and two lists of loads of bulk at most 1048576: GiveBetti answers true: the statement and its card. -/
import Derived.Test.YtkkadnoecklepaaGreatDoorG22GqC
import Derived.Test.YtkkadnoecklepaaGreatDoorCards
import Derived.Test.YtkkadnoecklepaaGreatDoorTie
import Derived.Deep.DeepHandedRow
namespace Go.Proofs.YtkkadnoecklepaaGreatDoor
open Go.RowKit
open Go.Proofs.Tryz
set_option linter.unusedSimpArgs false
set_option linter.unusedVariables false
set_option maxHeartbeats 8000000
set_option maxRecDepth 1000000
theorem Qis{d e f:Nat}{w:Vz}(g:Glob w)(j:FrRow w (some ⟨d,0,none⟩) (some ⟨e,0,none⟩) (some ⟨f,0,none⟩) 3 2 4 cornerJ gvB gvH):GivV w (some ⟨d,0,none⟩) (some ⟨e,0,none⟩) (some ⟨f,0,none⟩) 3 2 4 6 cornerJ gvB gvH gvVB gvVH (fun _=>1) (fun _=>0) (fun _=>0):=by
 refine⟨g,j,Qpd,fun i b c=>?_,fun i h a=>?_,rfl⟩
 .
  match i,c with
  |0,c=>cases c;exact⟨q1_of,qe_of,by decide,by decide⟩
  |1,c=>cases c;exact⟨q1_of,qe_of,by decide,by decide⟩
  |n+2,c=>cases c
 .
  match i,a with
  |0,a=>cases a;exact⟨qe_of,by decide⟩
  |1,a=>cases a;exact⟨qe_of,by decide⟩
  |2,a=>cases a;exact⟨qe_of,by decide⟩
  |3,a=>cases a;exact⟨qe_of,by decide⟩
  |n+4,a=>cases a
def GvF:Fact:=fun v w=>∃(g1 g2 g3:Nat) (C:Vw),v=.tuple #[.agg #[.slice (some ⟨g1,0,none⟩) 3 3,.slice (some ⟨g2,0,none⟩) 2 2,.slice (some ⟨g3,0,none⟩) 4 4],.agg #[.int .i64 0,.int .i64 0]]/\
     SB w g1 34 C/\C[0]?=some (.string ⟨#[49]⟩)/\C[1]?=some (.string ⟨#[50]⟩)/\SB w g2 32 (textsV [⟨#[45,49]⟩,⟨#[45,50]⟩]).toArray
theorem GvF.staysX{B:Nat}{xs ys:Vv}:StaysX (ApR 84 47 B xs ys) GvF:=fun _ _ _ a ⟨b,c,d,C,e,f,g,h,i⟩=>⟨b,c,d,C,e,a.sb f (by decide) (by decide),g,h,a.sb i (by decide) (by decide)⟩
def GvM:Fact:=fun v w=>∃(g1 g2 g3:Nat) (C:Vw),v=.agg #[.slice (some ⟨g1,0,none⟩) 3 3,.slice (some ⟨g2,0,none⟩) 2 2,.slice (some ⟨g3,0,none⟩) 4 4]/\
     SB w g1 34 C/\C[0]?=some (.string ⟨#[49]⟩)/\C[1]?=some (.string ⟨#[50]⟩)/\SB w g2 32 (textsV [⟨#[45,49]⟩,⟨#[45,50]⟩]).toArray
theorem GvM.staysX{B:Nat}{xs ys:Vv}:StaysX (ApR 84 47 B xs ys) GvM:=fun _ _ _ a ⟨b,c,d,C,e,f,g,h,i⟩=>⟨b,c,d,C,e,a.sb f (by decide) (by decide),g,h,a.sb i (by decide) (by decide)⟩
theorem Qpk{a b c d:Nat}{w:Vz}(f:Glob w)(g:FrRow w (some ⟨a,0,none⟩) (some ⟨b,0,none⟩) (some ⟨c,0,none⟩) 3 2 4 cornerJ gvB gvH)(hl:SB w d 36 #[.int .i64 0,.string ⟨#[49]⟩,.string ⟨#[50]⟩]):
 Calls prog 15 #[.agg #[.slice (some ⟨a,0,none⟩) 3 3,.slice (some ⟨b,0,none⟩) 2 2,.slice (some ⟨c,0,none⟩) 4 4],.slice (some ⟨d,0,none⟩) 1 1] w (Makes w GvF):=
 (Qih (some ⟨a,0,none⟩) (some ⟨b,0,none⟩) (some ⟨c,0,none⟩) (some ⟨d,0,none⟩) 3 2 4 1 6 1 900000 1 900000 4000000 10 cornerJ gvB gvH gvVB gvVH (fun _=>1) (fun _=>0) (fun _=>0) gvL gvVS w (Qis f g) Qiq Qir (hl.arow rfl (by decide)) (by decide) rfl Qpe Qph (by decide) (by decide) (Qpg 899999) (by decide) (by decide) (by decide)).mono fun e o h=>by
   obtain⟨i,j,k,C,rfl,k1,k2,l,m,n⟩:=Qpj h;exact⟨_,rfl,n,i,j,k,C,rfl,k1,k2,l,m⟩
theorem Qpl{c d f b:Nat}{w:Vz}(g:Glob w)(h:FrRow w (some ⟨c,0,none⟩) (some ⟨d,0,none⟩) (some ⟨f,0,none⟩) 3 2 4 cornerJ gvB gvH)(hl:SB w b 32 (textsV [⟨#[45,49]⟩,⟨#[45,50]⟩]).toArray):
 Calls prog 19 #[.agg #[.slice (some ⟨c,0,none⟩) 3 3,.slice (some ⟨d,0,none⟩) 2 2,.slice (some ⟨f,0,none⟩) 4 4],.slice (some ⟨b,0,none⟩) 2 2] w (Makes w (Is (.tuple #[.string ⟨#[53,47,50]⟩,.agg #[.int .i64 0,.int .i64 0]]))):=
 (Qii (some ⟨c,0,none⟩) (some ⟨d,0,none⟩) (some ⟨f,0,none⟩) (some ⟨b,0,none⟩) 3 2 4 2 6 10 4194325 cornerJ gvB gvH gvVB gvVH (fun _=>1) (fun _=>0) (fun _=>0) (vec [-1,-2]) [⟨#[45,49]⟩,⟨#[45,50]⟩] w (Qis g h) Qiq Qir ⟨fun j u k=>⟨b,0,rfl,hl.lt,by rw[Nat.zero_add,hl.cell];simpa using k⟩⟩ rfl (fun i s a=>by
   match i,a with
   |0,a=>cases a;exact⟨qtm.back,by decide,by decide +kernel,by decide +kernel⟩
   |1,a=>cases a;exact⟨qtm2.back,by decide,by decide +kernel,by decide +kernel⟩
   |n+2,a=>cases a) (1 / 2) qtext_half.back (by decide) (by decide) (by decide)).mono fun e p ⟨⟨s,l,a⟩,m⟩=>by
   have o:dot gvB.length (vec [-1,-2]) (fun i=>vec [-1,-2] i / 1)*(1 / 2)=5 / 2:=by decide +kernel
   rw[o] at a;obtain rfl:=Qcv a qt52;exact⟨_,l,m,rfl⟩
def LdF:Fact:=fun v w=>∃b:Nat,v=.slice (some ⟨b,0,none⟩) 1 1/\SB w b 36 #[.int .i64 0,.string ⟨#[49]⟩,.string ⟨#[50]⟩]
theorem LdF.staysX{B:Nat}{xs ys:Vv}:StaysX (ApR 84 47 B xs ys) LdF:=fun _ _ _ a ⟨b,e,h⟩=>⟨b,e,a.sb h (by decide) (by decide)⟩
def TxF(l:Vt):Fact:=fun v w=>∃b:Nat,v=.slice (some ⟨b,0,none⟩) l.length l.length/\SB w b 32 (textsV l).toArray
theorem TxF.stays(l:Vt):Stays (TxF l):=fun _ _ _ a ⟨b,e,h⟩=>⟨b,e,h.below a h.lt⟩
theorem Qit(s t:Vs)(w:Vz):Calls prog 40 #[.string s,.string t] w (Makes w (Is (.agg #[.string s,.string t]))):=(Qev s t w).mono fun e c ⟨a,b⟩=>⟨_,a,b,rfl⟩
theorem Qpm{a b:Vx}{c d:Nat}{l:Vt}{w:Vz}(f:TLst w a l)(g:TLst w b l)(h:l.length<=1000000):Calls prog 41 #[.slice a l.length c,.slice b l.length d] w (Makes w (Is (.bool true))):=(Qnl a b c d l w f g h).mono fun e k ⟨i,j⟩=>⟨_,i,j,rfl⟩
theorem Qpn(w:Vz)(hg:Glob w):Calls prog 6 #[] w fun e w'=>e=.returned (.bool true)/\Below w.heap.size w w':=by
 have HG:=Hi hg;clear hg;go_enter func6,ntmps6;go_wp2_with fail;go_fit (Qev ⟨#[48]⟩ ⟨#[48]⟩ w);rintro e w1 ⟨rfl,d⟩;have U:=Hi d;clear d;go_wp2_with fail;go_fit (Qev ⟨#[49]⟩ ⟨#[48]⟩ w1);rintro e w2 ⟨rfl,d⟩;have V:=Hi (U.o.trans (d.mono U.o.size));clear d U;go_wp2_with fail;go_fit (Qev ⟨#[48]⟩ ⟨#[49]⟩ w2);rintro e Q ⟨rfl,d⟩;have ak:=Hi (V.o.trans (d.mono V.o.size));clear d V;obtain⟨g1,A⟩:=nm Q.heap.size;obtain⟨A2,J⟩:=nm (g1+1);obtain⟨A3,W⟩:=nm (A2+1);obtain⟨BF,al⟩:=nm (A3+1)
 obtain⟨L,i⟩:=nm (((Q.alloc (.cells #[.string ⟨#[48]⟩,.string ⟨#[48]⟩,.string ⟨#[49]⟩,.string ⟨#[48]⟩,.string ⟨#[48]⟩,.string ⟨#[49]⟩] 34)).alloc (.cells #[.int .i64 0,.int .i64 1,.string ⟨#[49]⟩,.string ⟨#[]⟩,.string ⟨#[]⟩,.string ⟨#[]⟩,.int .i64 0,.int .i64 2,.string ⟨#[49]⟩,.string ⟨#[]⟩,.string ⟨#[]⟩,.string ⟨#[]⟩] 84)).alloc (.cells #[.int .i64 1,.int .i64 1,.string ⟨#[]⟩,.int .i64 1,.int .i64 2,.string ⟨#[]⟩,.int .i64 2,.int .i64 1,.string ⟨#[]⟩,.int .i64 2,.int .i64 2,.string ⟨#[]⟩] 86));have hz3:L.heap.size=BF:=by rw[<-i];simp only[World.size_alloc];omega
 have s1:SB L g1 34 #[.string ⟨#[48]⟩,.string ⟨#[48]⟩,.string ⟨#[49]⟩,.string ⟨#[48]⟩,.string ⟨#[48]⟩,.string ⟨#[49]⟩]:=by rw[<-i,<-A];exact((SB.new Q _ _).alloc _).alloc _
 have s2:SB L A2 84 #[.int .i64 0,.int .i64 1,.string ⟨#[49]⟩,.string ⟨#[]⟩,.string ⟨#[]⟩,.string ⟨#[]⟩,.int .i64 0,.int .i64 2,.string ⟨#[49]⟩,.string ⟨#[]⟩,.string ⟨#[]⟩,.string ⟨#[]⟩]:=by rw[<-i,<-J,<-A];exact(Qa1 Q _ _ _).alloc _
 have s3:SB L A3 86 #[.int .i64 1,.int .i64 1,.string ⟨#[]⟩,.int .i64 1,.int .i64 2,.string ⟨#[]⟩,.int .i64 2,.int .i64 1,.string ⟨#[]⟩,.int .i64 2,.int .i64 2,.string ⟨#[]⟩]:=by
  rw[<-i,<-W,<-J,<-A];have h:=Qa1 (Q.alloc (.cells #[.string ⟨#[48]⟩,.string ⟨#[48]⟩,.string ⟨#[49]⟩,.string ⟨#[48]⟩,.string ⟨#[48]⟩,.string ⟨#[49]⟩] 34)) (.cells #[.int .i64 0,.int .i64 1,.string ⟨#[49]⟩,.string ⟨#[]⟩,.string ⟨#[]⟩,.string ⟨#[]⟩,.int .i64 0,.int .i64 2,.string ⟨#[49]⟩,.string ⟨#[]⟩,.string ⟨#[]⟩,.string ⟨#[]⟩] 84) 86 #[.int .i64 1,.int .i64 1,.string ⟨#[]⟩,.int .i64 1,.int .i64 2,.string ⟨#[]⟩,.int .i64 2,.int .i64 1,.string ⟨#[]⟩,.int .i64 2,.int .i64 2,.string ⟨#[]⟩];rw[World.size_alloc] at h;exact h
 have X:Bl Q L:=by rw[<-i];exact(Below.new2 Q _ _).alloc (by simp;omega) _
 obtain⟨Y,hY⟩:=nm ((L.alloc (.cells #[.slice (some ⟨g1,0,none⟩) 3 3,.slice (some ⟨A2,0,none⟩) 2 2,.slice (some ⟨A3,0,none⟩) 4 4] 26)).drew);have B:Bl L Y:=by rw[<-hY];exact(bR.alloc lZ _).drew
 have M:O (Bl w Y):=Hi (ak.o.trans ((X.trans (B.mono X.size)).mono ak.o.size));have q:O (SB Y BF 26 #[.slice (some ⟨g1,0,none⟩) 3 3,.slice (some ⟨A2,0,none⟩) 2 2,.slice (some ⟨A3,0,none⟩) 4 4]):=Hi (by rw[<-hY,<-hz3];exact(SB.new L _ _).drew);have am:O (FrRow Y (some ⟨g1,0,none⟩) (some ⟨A2,0,none⟩) (some ⟨A3,0,none⟩) 3 2 4 cornerJ gvB gvH):=Hi ⟨(s1.below B s1.lt).arow rfl (by decide),(s2.below B s2.lt).arow rfl (by decide),(s3.below B s3.lt).arow rfl (by decide)⟩;obtain⟨an,ao,ap⟩:=Ib (q.o.cell 0) (q.o.cell 1) (q.o.cell 2);simp only[List.getElem?_toArray,List.getElem?_cons_zero,List.getElem?_cons_succ] at an ao ap;obtain⟨HX,a5,a6,a7,a8,a9⟩:=Ie i A al hY J W;clear i A al hY X B s1 s2 s3 J W hz3;go_wp2_with fail
 refine RegX.bg (ApR 84 47 Y.heap.size [] []) 10 (fun j=>some (bif j == 5 then 19 else bif j == 6 then 25 else bif j == 7 then 26 else bif j == 8 then 2 else bif j == 9 then 3 else 20+j)) ?_;rw[HX.o];simp only[a5.o,a8.o,a9.o,a6.o];rw[a7.o];have k:RelOK (ApR 84 47 Y.heap.size [] []):=ApR.ok;refine RegX.pu k (c:=?_) [] (fun w d=>?_) ?_;rotate_left
 .
  intro K a;replace d:=d.below lZ;obtain⟨d0,d1,d2⟩:=Jb d q.o.lt an.o ao.o ap.o;go_simp;exact a
 refine RegX.ca (φ:=Is (.agg #[.string ⟨#[49]⟩,.string ⟨#[50]⟩])) [] (Is.staysX _ _) (fun w d=>?_) ?_
 .
  intro K a;go_simp;exact Makes.use (Qit _ _ _) (fun v w' Z h=>a v w' (ApR.of_below Z) h)
 refine RegX.pu k (c:=?_) [1] (fun w d=>?_) ?_;rotate_left
 .
  intro K a;go_simp;exact a
 refine RegX.ca (φ:=LdF) [2] LdF.staysX (fun w d=>?_) ?_
 .
  intro K a;go_simp;exact a _ _ (ApR.of_below (bR.alloc lZ _)) ⟨w.heap.size,rfl,SB.new w _ _⟩
 refine RegX.ca (φ:=GvF) [0,3] GvF.staysX (fun w d=>?_) ?_
 .
  rintro v3 ⟨bl,rfl,hl⟩;intro K a;go_simp;exact Makes.use (Qpk (HG.o.below (M.o.trans ((d.below lZ).mono M.o.size))) (am.o.below (d.below lZ)) hl) (fun v w' Z h=>a v w' (ApR.of_below Z) h)
 refine RegX.ca (φ:=GvF) [4] GvF.staysX (fun w d=>?_) ?_
 .
  intro v4 h4 K a;go_simp;exact a _ _ (k.refl _) h4
 refine RegX.ca (φ:=GvM) [5] GvM.staysX (fun w d=>?_) ?_
 .
  rintro v4 ⟨h1,g,h3,C,rfl,h⟩;intro K a;go_simp;exact a _ _ (k.refl _) ⟨h1,g,h3,C,rfl,h⟩
 refine RegX.ca (φ:=Is (.agg #[.int .i64 0,.int .i64 0])) [5] (Is.staysX _ _) (fun w d=>?_) ?_
 .
  rintro v4 ⟨h1,g,h3,C,rfl,h⟩;intro K a;go_simp;exact a _ _ (k.refl _) rfl
 refine RegX.ca (φ:=NewM 47 3 Y.heap.size) [] NewM.staysX (fun w d=>?_) ?_
 .
  intro K a;go_simp;exact a _ _ (ApR.of_below (bR.alloc lZ _)) ⟨w.heap.size,_,rfl,d.size,SB.new w _ _,rfl⟩
 refine RegX.ca (φ:=NewS 41 #[.int .i64 0,.int .i64 0] Y.heap.size) [] (NewS.staysX (by decide) (by decide)) (fun w d=>?_) ?_
 .
  intro K a;go_simp;exact a _ _ (ApR.of_below (bR.alloc lZ _)) ⟨w.heap.size,rfl,d.size,SB.new w _ _⟩
 refine RegX.twoU k [7] (by simp only[List.nil_append,List.cons_append,List.length_append,List.length_cons,List.length_nil,Nat.reduceAdd]) (by rfl) (by simp only[List.getElem?_toArray,List.getElem?_cons_zero,List.getElem?_cons_succ];exact rfl) (by simp only[List.getElem?_toArray,List.getElem?_cons_zero,List.getElem?_cons_succ];exact rfl) (by rfl) (by kernel_rfl) (fun j hj=>?_) (fun u d=>?_)
 .
  obtain rfl:=List.mem_singleton.1 hj;refine⟨_,[5],(by simp only[List.getElem?_toArray,List.getElem?_cons_zero,List.getElem?_cons_succ];exact rfl),by kernel_rfl,fun w d=>?_⟩;simp only[Given,List.nil_append,List.cons_append,List.getD_cons_zero,List.getD_cons_succ,Qad,Act.put,List.setIfInBounds_toArray,List.set_cons_zero,List.set_cons_succ,Nat.reduceAdd,Nat.reduceBEq,cond_true,cond_false];rintro v4 ⟨h1,g,h3,C,rfl,h⟩;intro K a;go_simp;exact a
 rw[show restOf 10 [7]= [0,1,2,3,4,5,6,8,9] from rfl];simp only[Given,List.nil_append,List.cons_append,List.getD_cons_zero,List.getD_cons_succ,Qad,Act.put,List.setIfInBounds_toArray,List.set_cons_zero,List.set_cons_succ,Nat.reduceAdd,Nat.reduceBEq,cond_true,cond_false];intro v3 _ v4 _ v5 _ v6 h6 v8 h8 v9 h9;obtain⟨g4,g5,g6,C,rfl,hj,aq,ar,ht⟩:=h6;obtain⟨b2,D,rfl,au,g,hz2⟩:=h8;obtain⟨b3,rfl,ba,h3⟩:=h9;obtain⟨d0,d1,d2,rfl⟩:∃d0 d1 d2,D=#[d0,d1,d2]:=by
  match D,hz2 with
  |⟨[x,y,z]⟩,_=>exact⟨x,y,z,rfl⟩
 have c0:=g.cell 0;have c1:=g.cell 1;have c2:=g.cell 2;simp only[List.getElem?_toArray,List.getElem?_cons_zero,List.getElem?_cons_succ] at c0 c1 c2;have f0:=g.free 0;have f1:=g.free 1;have f2:=g.free 2;have r:=((g.set 0 (.slice (some ⟨g4,0,none⟩) 3 3)).set 1 (.slice (some ⟨g5,0,none⟩) 2 2)).set 2 (.slice (some ⟨g6,0,none⟩) 4 4);simp only[List.setIfInBounds_toArray,List.set_cons_zero,List.set_cons_succ] at r;have m:=(((Only.refl b2 u).setCell 0 (.slice (some ⟨g4,0,none⟩) 3 3)).setCell 1 (.slice (some ⟨g5,0,none⟩) 2 2)).setCell 2 (.slice (some ⟨g6,0,none⟩) 4 4);obtain⟨U1,aa⟩:=nm (((u.setCell ⟨b2,0,none⟩ (.slice (some ⟨g4,0,none⟩) 3 3)).setCell ⟨b2,1,none⟩ (.slice (some ⟨g5,0,none⟩) 2 2)).setCell ⟨b2,2,none⟩ (.slice (some ⟨g6,0,none⟩) 4 4));rw[aa] at r m;have f:=h3.only m (h3.unlike g (by decide));have ab:=hj.only m (hj.unlike g (by decide))
 have ad:=ht.only m (ht.unlike g (by decide));have av:Bl Y U1:=Only.fresh (d.below lZ) m au;have bb:O (ApR 84 47 Y.heap.size [] [] u U1):=Hi (ApR.of_only m g r rfl au (by decide));have e0:=f.cell 0;have e1:=f.cell 1;simp only[List.getElem?_toArray,List.getElem?_cons_zero,List.getElem?_cons_succ] at e0 e1;have k0:=f.free 0;have k1:=f.free 1;have ae:=(f.set 0 (.int .i64 0)).set 1 (.int .i64 0);have s:=((Only.refl b3 U1).setCell 0 (.int .i64 0)).setCell 1 (.int .i64 0);obtain⟨U2,af⟩:=nm ((U1.setCell ⟨b3,0,none⟩ (.int .i64 0)).setCell ⟨b3,1,none⟩ (.int .i64 0));rw[af] at ae s;have E:O (SB U2 b3 41 #[.int .i64 0,.int .i64 0]):=Hi (by simpa using ae);have n:O (SB U2 b2 47 #[.slice (some ⟨g4,0,none⟩) 3 3,.slice (some ⟨g5,0,none⟩) 2 2,.slice (some ⟨g6,0,none⟩) 4 4]):=Hi (r.only s (r.unlike f (by decide)))
 have F:=Hi (ab.only s (ab.unlike f (by decide)));have p:=Hi (ad.only s (ad.unlike f (by decide)));obtain⟨ag,HC,bc,bd⟩:=Ic (Only.fresh av s ba) (And.intro aq ar) aa af;clear r f ab ad m s av ae hj ht aq ar g h3 d aa af k hz2;intro K1 aw;go_simp;rw[bc.o];refine aw _ bb.o ?_;intro K2 ax;clear aw c0 c1 c2 f0 f1 f2;go_simp;refine ax _ _ ?_;clear ax e0 e1 k0 k1;rw[bd.o];have N:=q.o.below ag.o q.o.lt;have x0:=N.cell 0;have x1:=N.cell 1;have x2:=N.cell 2;have x3:=n.o.cell 1;simp only[List.getElem?_toArray,List.getElem?_cons_zero,List.getElem?_cons_succ] at x0 x1 x2 x3;have ah:=Hi (M.o.trans (ag.o.mono M.o.size));have ay:=Hi (Qpl (HG.o.below ah.o) (am.o.below ag.o) p.o);clear N;go_wp2_with fail;refine Makes.use ay.o ?_;rintro _ w5 ai rfl
 clear x0 x1 x2 x3;obtain⟨b5,G⟩:∃b5,w5.heap.size=b5:=⟨_,rfl⟩;obtain⟨U5,P⟩:=nm ((w5.alloc (.cells #[.int .i64 0,.int .i64 0] 41)).drew);have t:Bl U2 U5:=by rw[<-P];exact(ai.alloc ai.size _).drew
 have az:O (SB U5 b5 41 #[.int .i64 0,.int .i64 0]):=Hi (by rw[<-P,<-G];exact(SB.new w5 _ _).drew);obtain⟨a0,H,aj,a1,a2,be,bf⟩:=If (E.o.below t E.o.lt) (n.o.below t n.o.lt) (F.o.below t F.o.lt) (p.o.below t p.o.lt) (ah.o.trans (t.mono ah.o.size)) G P;clear ai G P t E n F p ay;go_wp2_with fail;refine RegG.bg 33 (fun j=>some (35+j)) ?_;rw[bf.o,be.o];obtain⟨R,S,I,T,a3,a4⟩:=Ie (a0.o.cell 0) (az.o.cell 0) (H.o.cell 0) (H.o.cell 1) ((aj.o.cell 0).trans HC.o.1) ((aj.o.cell 1).trans HC.o.2);simp only[List.getElem?_toArray,List.getElem?_cons_zero,List.getElem?_cons_succ] at R S I T;refine RegG.pu (c:=?_) [] (fun w d=>?_) ?_;rotate_left
 .
  intro K a;go_simp;exact a
 refine RegG.pu (c:=?_) [0] (fun w d=>?_) ?_;rotate_left
 .
  intro K a;have d0:=ce d a0.o.lt R.o;go_simp;exact a
 refine RegG.pu (c:=?_) [1] (fun w d=>?_) ?_;rotate_left
 .
  intro K a;go_simp;exact a
 refine RegG.pu (c:=?_) [2] (fun w d=>?_) ?_;rotate_left
 .
  intro K a;go_simp;exact a
 refine RegG.pu (c:=?_) [3] (fun w d=>?_) ?_;rotate_left
 .
  intro K a;go_simp;exact a
 refine RegG.pu (c:=?_) [4,3] (fun w d=>?_) ?_;rotate_left
 .
  intro K a;have d0:=ce d az.o.lt S.o;go_simp;exact a
 refine RegG.pu (c:=?_) [5,3] (fun w d=>?_) ?_;rotate_left
 .
  intro K a;go_simp;exact a
 refine RegG.pu (c:=?_) [3,6] (fun w d=>?_) ?_;rotate_left
 .
  intro K a;go_simp;exact a
 refine RegG.pu (c:=?_) [7] (fun w d=>?_) ?_;rotate_left
 .
  intro K a;go_simp;exact a
 refine RegG.pu (c:=?_) [8] (fun w d=>?_) ?_;rotate_left
 .
  intro K a;go_simp;exact a
 refine RegG.pu (c:=?_) [9,8] (fun w d=>?_) ?_;rotate_left
 .
  intro K a;have d0:=ce d H.o.lt I.o;go_simp;exact a
 refine RegG.pu (c:=?_) [10,8] (fun w d=>?_) ?_;rotate_left
 .
  intro K a;go_simp;exact a
 refine RegG.pu (c:=?_) [11,8] (fun w d=>?_) ?_;rotate_left
 .
  intro K a;go_simp;exact a
 refine RegG.pu (c:=?_) [8,12] (fun w d=>?_) ?_;rotate_left
 .
  intro K a;go_simp;exact a
 refine RegG.pu (c:=?_) [13] (fun w d=>?_) ?_;rotate_left
 .
  intro K a;go_simp;exact a
 refine RegG.pu (c:=?_) [14] (fun w d=>?_) ?_;rotate_left
 .
  intro K a;go_simp;exact a
 refine RegG.pu (c:=?_) [15,14] (fun w d=>?_) ?_;rotate_left
 .
  intro K a;have d0:=ce d H.o.lt I.o;go_simp;exact a
 refine RegG.pu (c:=?_) [16,14] (fun w d=>?_) ?_;rotate_left
 .
  intro K a;go_simp;exact a
 refine RegG.pu (c:=?_) [17,14] (fun w d=>?_) ?_;rotate_left
 .
  intro K a;obtain⟨d0,d1⟩:=Ja d aj.o.lt a3.o a4.o;go_simp;exact a
 refine RegG.ca (φ:=Is (.agg #[.string ⟨#[49]⟩,.string ⟨#[50]⟩])) [14] (Is.stays _) (fun w d=>?_) ?_
 .
  intro K a;go_simp;exact Makes.use (Qit _ _ _) a
 refine RegG.pu (c:=?_) [18,19,14] (fun w d=>?_) ?_;rotate_left
 .
  intro K a;go_simp;exact a
 refine RegG.pu (c:=?_) [14,20] (fun w d=>?_) ?_;rotate_left
 .
  intro K a;go_simp;exact a
 refine RegG.pu (c:=?_) [21] (fun w d=>?_) ?_;rotate_left
 .
  intro K a;go_simp;exact a
 refine RegG.pu (c:=?_) [22] (fun w d=>?_) ?_;rotate_left
 .
  intro K a;go_simp;exact a
 refine RegG.pu (c:=?_) [23,22] (fun w d=>?_) ?_;rotate_left
 .
  intro K a;go_simp;exact a
 refine RegG.pu (c:=?_) [24,22] (fun w d=>?_) ?_;rotate_left
 .
  intro K a;have d0:=ce d H.o.lt T.o;go_simp;exact a
 refine RegG.ca (φ:=TxF [⟨#[45,49]⟩,⟨#[45,50]⟩]) [22] (TxF.stays _) (fun w d=>?_) ?_
 .
  intro K a;go_simp;exact a _ _ (bR.alloc lZ _) ⟨w.heap.size,rfl,SB.new w _ _⟩
 refine RegG.ca (φ:=Is (.bool true)) [25,26,22] (Is.stays _) (fun w d=>?_) ?_
 .
  rintro v ⟨b,rfl,hs⟩;intro K a;go_simp;exact Makes.use (Qpm (l:=[⟨#[45,49]⟩,⟨#[45,50]⟩]) (SB.texts (a1.o.below d a1.o.lt)) (SB.texts hs) (by decide)) a
 refine RegG.pu (c:=?_) [22,27] (fun w d=>?_) ?_;rotate_left
 .
  intro K a;go_simp;exact a
 refine RegG.pu (c:=?_) [28] (fun w d=>?_) ?_;rotate_left
 .
  intro K a;go_simp;exact a
 refine RegG.pu (c:=?_) [29] (fun w d=>?_) ?_;rotate_left
 .
  intro K a;go_simp;exact a
 refine RegG.pu (c:=?_) [30,29] (fun w d=>?_) ?_;rotate_left
 .
  intro K a;go_simp;exact a
 refine RegG.pu (c:=?_) [29,31] (fun w d=>?_) ?_;rotate_left
 .
  intro K a;go_simp;exact a
 refine RegG.last (by simp only[List.nil_append,List.cons_append,List.length_append,List.length_cons,List.length_nil,Nat.reduceAdd]) (by rfl) (by rfl) (by kernel_rfl) (fun x9 d=>?_);simp only[FinG,List.nil_append,List.cons_append,Qad,Act.put,List.setIfInBounds_toArray,List.set_cons_zero,List.set_cons_succ,Nat.reduceAdd,Nat.reduceBEq,cond_true,cond_false];intro bi _ K a;go_simp;refine a _ _ ?_;have bh:=Hi (a2.o.trans (d.mono a2.o.size));clear a d;go_wp2;go_ret;exact⟨rfl,bh.o⟩
theorem Qfq(vh:Vy):∀k,hldM vh (fun _=>0) k=fun _=>0
 |0=>rfl
 |k+1=>funext fun w=>by
  show (if vh[k]?=some w then (0:Rat) else hldM vh (fun _=>0) k w)=0
  rw[Qfq vh k]
  split<;>rfl
theorem Qfr{vs:List (Nat × Rat × Rat)}(h:∀p,p∈ vs->Fits p.2.1 4194305/\Fits p.2.2 4194305):∀k i,Fits (agn (vs.take k) i) (k*4194306+1)
 |0,i=>Fits.zero.mono (by omega)
 |k+1,i=>by
  have d:=Qfr h k;cases hp:vs[k]? with
  |none=>
   have e:vs.take (k+1)=vs.take k:=by rw[List.take_add_one,hp];simp
   rw[e];exact(d i).mono (by omega)
  |some p=>
   have f:=h p (mO hp);rw[Qcp hp];by_cases g:i=2*p.1
   . rw[g,agn_x]
     exact((d _).sub f.1).mono (by omega)
   .
    by_cases j:i=2*p.1+1
    . rw[j,agn_y]
      exact((d _).sub f.2).mono (by omega)
    . rw[Qc8 g j]
      exact(d i).mono (by omega)
theorem LVal.fits{d:List L3}{vs:List (Nat × Rat × Rat)}(h:LVal d vs)(hl:d.length<=20):∀k i,Fits (agn (vs.take k) i) 83886121:=fun k i=>by
 have g:∀p,p∈ vs->Fits p.2.1 4194305/\Fits p.2.2 4194305:=fun p o=>by
  obtain⟨j,n⟩:=List.getElem?_of_mem o;obtain⟨l,f⟩:∃l,d[j]?=some l:=⟨d[j]'(by have:=(gZ n).1;have:=h.len;omega),gE _⟩;obtain⟨_,q,r,s,t⟩:=h.at_ j l p f n;exact⟨(q.fits' s).mono (by decide),(r.fits' t).mono (by decide)⟩
 rcases Nat.lt_or_ge k 21 with u|u
 . exact(Qfr g k i).mono (by omega)
 .
  have e:vs.take k=vs.take 20:=by rw[List.take_of_length_le (by have:=h.len;omega),List.take_of_length_le (by have:=h.len;omega)]
  rw[e];exact(Qfr g 20 i).mono (by decide)
theorem LVal.both{f g:List L3}{vs j:List (Nat × Rat × Rat)}(h:LVal f vs)(k:LVal g j):LVal (f++g) (vs++j):=by
 refine⟨by rw[List.length_append,List.length_append,h.len,k.len],fun i l p hl e=>?_⟩;rcases Nat.lt_or_ge i f.length with d|d
 .
  rw[List.getElem?_append_left d] at hl;rw[List.getElem?_append_left (by rw[h.len];exact d)] at e;exact h.at_ i l p hl e
 .
  rw[List.getElem?_append_right d] at hl;rw[List.getElem?_append_right (by rw[h.len];exact d),h.len] at e;exact k.at_ _ l p hl e
theorem Qiu:∀e d:List L3,lW (e++d)=lW e+lW d
 | [],d=>by simp[lW]
 |s :: l,d=>by
  show s.x.size+s.y.size+lW (l++d)=s.x.size+s.y.size+lW l+lW d
  rw[Qiu l d];omega
theorem Qiv:∀bs:List B6,bW (bs.map qBar)<=bW bs+bs.length
 | []=>by simp[bW]
 |s :: l=>by
  have:=Qiv l;have e:(⟨#[48]⟩:ByteArray).size=1:=rfl;simp only[List.map_cons,bW,List.length_cons,qBar,e];omega
theorem Qiw:∀hs:List H3,hW (hs.map qHold)<=hs.length
 | []=>by simp[hW]
 |s :: l=>by
  have:=Qiw l;have e:(⟨#[48]⟩:ByteArray).size=1:=rfl;simp only[List.map_cons,hW,List.length_cons,qHold,e];omega
theorem Qdw{js:List S2}{bs:List B6}{hs:List H3}(d:FrSized js bs hs):FrSized js (bs.map qBar) (hs.map qHold):=by
 refine⟨d.j,fun b f=>?_,fun x g=>?_⟩
 .
  obtain⟨c,e,rfl⟩:=List.mem_map.1 f;obtain⟨h,_,i,k⟩:=d.b c e;exact⟨h,by show (⟨#[48]⟩:ByteArray).size<=_;decide,i,k⟩
 .
  obtain⟨c,e,rfl⟩:=List.mem_map.1 g
  show (⟨#[48]⟩:ByteArray).size<=_
  decide
structure QN (js:List S2) (bs:List B6) (hs:List H3) (vb:List (Nat × Nat × Rat × Rat)) (vh:Vy) (cv:Vec):Prop where
 fv:FrV 1048576 js bs hs vb vh
 ce:∀(i:Nat) (b:B6),bs[i]?=some b->QOf b.c.data.toList (cv i)/\QOf b.e.data.toList 0/\b.c.size<=1048576/\b.e.size<=1048576
 by_:∀(i:Nat) (h:H3),hs[i]?=some h->QOf h.q.data.toList 0/\h.q.size<=1048576
 pos:∀i,i<bs.length->cv i≠0
theorem Qpq{js:List S2}{bs:List B6}{hs:List H3}(n:FrSized js bs hs)(f:FrameFault js (bs.map qBar) (hs.map qHold) 0 0):∃vb vh cv,QN js (bs.map qBar) (hs.map qHold) vb vh cv:=by
 obtain⟨vb,vh,o,_⟩:=Ql9 (Qdw n) f;obtain⟨_,p,_,_⟩:=f.few;have t:∀i:Nat,∃q:Rat,∀b,(bs.map qBar)[i]?=some b->QOf b.c.data.toList q/\q≠0:=fun i=>by
  cases r:(bs.map qBar)[i]? with
  |none=>exact⟨0,fun b g=>by cases g⟩
  |some b=>
   rcases p i b r with ⟨_,h⟩|⟨_,_,_,_,_,_,w,x,y,z,u,A,B,_,_,_,_,v,_,_,k⟩
   . cases h
   .
    refine⟨u,fun c l=>?_⟩;cases l;refine⟨v,fun e=>?_⟩;subst e
    split at k
    . cases k
    . rw[if_pos (.inl (by decide))] at k
      cases k
 obtain⟨cv,j⟩:=Classical.axiomOfChoice t;refine⟨vb,vh,cv,o,fun i b g=>?_,fun i h s=>?_,fun i r=>(j i _ (gE r)).2⟩
 .
  have d:=(Qdw n).b b (mO g);rw[List.getElem?_map] at g;obtain⟨c,l,rfl⟩:=Option.map_eq_some_iff.1 g;exact⟨(j i _ (by rw[List.getElem?_map,l];rfl)).1,q0_of,d.1,d.2.1⟩
 .
  have d:=(Qdw n).h h (mO s);rw[List.getElem?_map] at s;obtain⟨c,l,rfl⟩:=Option.map_eq_some_iff.1 s;exact⟨q0_of,d⟩
theorem QN.givV{js:List S2}{bs:List B6}{hs:List H3}{vb:List (Nat × Nat × Rat × Rat)}{vh:Vy}{cv:Vec}(h:QN js bs hs vb vh cv){w:Vz}{d e f:Vx}{c1 c2 c3:Nat}(g:Glob w)(i:FrRow w d e f c1 c2 c3 js bs hs):GivV w d e f c1 c2 c3 (2*js.length) js bs hs vb vh cv (fun _=>0) (fun _=>0):=
 ⟨g,i,h.fv,h.ce,h.by_,rfl⟩
theorem QN.over{js:List S2}{bs:List B6}{hs:List H3}{vb:List (Nat × Nat × Rat × Rat)}{vh:Vy}{cv:Vec}(h:QN js bs hs vb vh cv){d:List L3}{vs:List (Nat × Rat × Rat)}(hl:d.length<=20)(e:LVal d vs)(g:∀(i:Nat) (x:L3),d[i]?=some x->IsJ js.length x.j)(k:jW js+bW bs+hW hs+lW d<=1048676):∃P b Q c,GivP P b Q c vb bs.length hs.length cv (fun _=>0) (fun _=>0) (agn vs)/\2*b+2*c+12<=8389708:=
 h.fv.overG (N:=0) (fun i b f=>⟨(h.ce i b f).1,(h.ce i b f).2.1⟩) (fun i x l=>(h.by_ i x l).1) hl e.len (e.loadV g) k
section
variable {nj nb:Nat} {vb:List (Nat × Nat × Rat × Rat)} {vh:Vy} {cv a a' m m':Vec}
def OneM(nj nb:Nat)(vb:List (Nat × Nat × Rat × Rat))(vh:Vy)(cv a m:Vec):Prop:=
 Giv.Settles (2*nj) nb (balM vb nb vh) cv (fun _=>0) (freeW vh) (fun _=>0) a m/\∀m',Giv.Settles (2*nj) nb (balM vb nb vh) cv (fun _=>0) (freeW vh) (fun _=>0) a m'->∀r,r<2*nj->m' r=m r
theorem OneM.add(h:OneM nj nb vb vh cv a m)(k:OneM nj nb vb vh cv a' m'):OneM nj nb vb vh cv (fun i=>a i+a' i) (fun i=>m i+m' i):=by
 have hs:=h.1.add k.1;refine⟨hs,fun x d r e=>?_⟩;have f:=h.2 _ (Giv.Settles.diff d hs h.1) r e;have g:m r+(x r - (m r+m' r))=m r:=f;grind
abbrev tM(nj nb:Nat)(vb:List (Nat × Nat × Rat × Rat))(vh:Vy)(cv m:Vec):Vec:=Giv.tOf (2*nj) (balM vb nb vh) cv (fun _=>0) m
def MovedOK(nj nb:Nat)(vb:List (Nat × Nat × Rat × Rat))(vh:Vy)(cv a:Vec)(KM:Nat)(p1 p2:Vx)(n1 n2:Nat)(w:Vz):Prop:=
 n1=nj/\n2=nb/\∃(g1 g2:Nat) (ss:List S2) (tb:Vt) (m:Vec),p1=some ⟨g1,0,none⟩/\p2=some ⟨g2,0,none⟩/\ss.length=nj/\SB w g1 34 (ss.flatMap S2.cells).toArray/\SpotsTold m ss/\SB w g2 32 (textsV tb).toArray/\TextsOf nb (tM nj nb vb vh cv m) tb/\OneM nj nb vb vh cv a m/\∀r,r<2*nj->Fits (m r) KM
theorem MovedOK.below{d n1 e:Nat}{f g:Vx}{w i:Vz}(h:MovedOK nj nb vb vh cv a d f g n1 e w)(j:Bl w i):MovedOK nj nb vb vh cv a d f g n1 e i:=by
 obtain⟨n,o,p,q,r,s,m,t,u,v,k,x,l,y⟩:=h;exact⟨n,o,p,q,r,s,m,t,u,v,k.below j k.lt,x,l.below j l.lt,y⟩
theorem MovedOK.only{d n1 e g:Nat}{f i:Vx}{w j:Vz}{t:Vr}{C:Vw}(h:MovedOK nj nb vb vh cv a d f i n1 e w)(k:Only g w j)(hs:SB w g t C)(o:34≠t)(p:32≠t):MovedOK nj nb vb vh cv a d f i n1 e j:=by
 obtain⟨q,r,s,u,v,x,m,k1,k2,y,l,z,n,A⟩:=h;exact⟨q,r,s,u,v,x,m,k1,k2,y,l.only k (l.unlike hs o),z,n.only k (n.unlike hs p),A⟩
theorem MovedOK.apR{d n1 e B:Nat}{xs ys:Vv}{f g:Vx}{w i:Vz}(h:MovedOK nj nb vb vh cv a d f g n1 e w)(j:ApR 36 47 B xs ys w i):MovedOK nj nb vb vh cv a d f g n1 e i:=by
 obtain⟨k,l,n,o,p,q,m,r,s,t,u,v,x,y⟩:=h;exact⟨k,l,n,o,p,q,m,r,s,t,j.sb u (by decide) (by decide),v,j.sb x (by decide) (by decide),y⟩
def MovedIs(nj nb:Nat)(vb:List (Nat × Nat × Rat × Rat))(vh:Vy)(cv a:Vec)(KM:Nat)(p1 p2:Vx)(n1 n2:Nat)(cd:Int)(w:Vz):Prop:=
 (cd≠0/\¬∃m,OneM nj nb vb vh cv a m)∨(cd=0/\MovedOK nj nb vb vh cv a KM p1 p2 n1 n2 w)
theorem MoveSays.form{I B:Nat}{js:List S2}{bs:List B6}{hs:List H3}{w n:Vz}{e:Ending}(J:FrV 1048576 js bs hs vb vh)(h:MoveSays w js.length bs.length I B vb vh cv (fun _=>0) (fun _=>0) a e n):
 ∃(C D K:Vx) (n1 o E:Nat) (F:Int),e=.returned (.tuple #[.agg #[.slice C n1 n1,.slice D o o,.slice K E E],.agg #[.int .i64 F,.int .i64 0]])/\MovedIs js.length bs.length vb vh cv a B C D n1 o F n/\Below w.heap.size w n:=by
 obtain⟨h,p⟩:=h;rw[Qfq] at h;rcases h with ⟨f,h⟩|⟨f,x,y,k,L,r,G,q⟩|⟨M,O,W,R,S,X,m,t,f,hl,u,v,z,d,_,_,T,g,j,U⟩
 . exact⟨none,none,none,0,0,0,8,f,.inl ⟨by decide,fun ⟨m,l⟩=>h m l.1⟩,p⟩
 . exact⟨none,none,none,0,0,0,9,f,.inl ⟨by decide,fun ⟨m,l⟩=>q ((l.2 x k r G).trans (l.2 y L r G).symm)⟩,p⟩
 .
  refine⟨_,_,_,_,_,_,0,f,.inr ⟨rfl,rfl,rfl,M,O,R,S,m,rfl,rfl,hl,u,v,z,⟨d.1,fun i s H=>?_⟩,⟨g,j⟩,U⟩,p⟩;have k:=d.2 i s H;rw[T] at k;have A:i<bs.length:=by have:=(gZ H).1;have:=d.1;omega
  have V:cv i*(stretchV vb m i - 0)=tM js.length bs.length vb vh cv m i:=by
   rw[Qfj J rfl m A];rfl
  rw[<-V];exact k
end
section
variable {P b Q c N:Nat} {js:List S2} {bs:List B6} {hs:List H3} {vb:List (Nat × Nat × Rat × Rat)} {vh:Vy} {cv a m:Vec}
theorem Qpr{E g:Nat}(p:21*E+126<=g)(d:GivP P b Q c vb bs.length hs.length cv (fun _=>0) (fun _=>0) a)(k:FrV 1048576 js bs hs vb vh)(q:2*b+2*c+12<=E)(h:OneM js.length bs.length vb vh cv a m)(s:∀i,i<bs.length->cv i≠0):
 (∀i,i<bs.length->Fits (tM js.length bs.length vb vh cv m i) g)/\Fits (dot bs.length (tM js.length bs.length vb vh cv m) (fun i=>tM js.length bs.length vb vh cv m i / cv i)*(1 / 2)) g:=by
 have o:=Qfq vh hs.length;obtain⟨Y,y1,y2,y3⟩:=d.over (a:=a) (m:=m) k rfl q (by rw[o];exact h.1) (by rw[o];exact h.2);have x:=k.j;have y:=k.b;obtain⟨K,t⟩:∃K,K=20*E+120+c:=⟨_,rfl⟩;rw[<-t] at y2 y3;refine⟨fun i u=>?_,?_⟩
 .
  have l:Wh (P*Y) (b+K+5) (dot (2*js.length) (fun w=>balM vb bs.length vh w i) m):=Qcu (by omega) (fun r v=>(d.fr.at r i).mul (y3 r v));have n:Wh (Q*(P*Y)) (c+(b+K+5)) (tM js.length bs.length vb vh cv m i):=by
   have e:tM js.length bs.length vb vh cv m i=cv i* -(dot (2*js.length) (fun w=>balM vb bs.length vh w i) m):=by
    show cv i*(-(dot (2*js.length) (fun w=>balM vb bs.length vh w i) m) - 0)=_
    grind
   rw[e];exact(d.ce i u).1.mul l.neg
  refine(n.fits (Nat.mul_pos d.pos (Nat.mul_pos d.fr.pos y1)) ?_).mono (by omega);have f:=Nat.mul_le_mul d.le (Nat.mul_le_mul d.fr.le y2);rw[<-Nat.pow_add,<-Nat.pow_add] at f;exact Nat.le_trans f (Nat.pow_le_pow_right (by decide) (by omega))
 .
  have l:=Qo2 (N:=2*js.length) d.pos d.le y1 y2 (by omega) d.a y3;have n:=Giv.clapeyron h.1 s;have e:dot bs.length (tM js.length bs.length vb vh cv m) (fun i=>tM js.length bs.length vb vh cv m i / cv i)*(1 / 2)=(0 - dot (2*js.length) a m)*(1 / 2):=by
   rw[n];grind
  rw[e];have f:Fits (1 / 2:Rat) 2:=⟨by decide +kernel,by decide +kernel⟩;exact((Fits.zero.sub l).mul f (by omega)).mono (by omega)
end
theorem Qps{d:List S2}{ts:List RT}{K:Nat}{m:Vec}(h:MotVals d ts K)(k:SpotsTold m d):∀j,j<2*d.length->∃t,ts[j]?=some t/\t.2.1=m j/\t.2.2=K:=fun j p=>by
 obtain⟨s,hs⟩:∃s,d[j / 2]?=some s:=⟨d[j / 2]'(by omega),gE _⟩;obtain⟨t,u,f,g,i,l,n,o⟩:=h.val _ s hs;obtain⟨k1,k2⟩:=k _ s hs;rcases(by omega:j=2*(j / 2)∨j=2*(j / 2)+1) with e|e
 . rw[e]
   exact⟨t,f,i.inj k1.back,n⟩
 . rw[e]
   exact⟨u,g,l.inj k2.back,o⟩
structure BK (w:Vz) (B0:Nat) (a1:Vx) (c1 nj:Nat) (b2 b3:Vx) (d2 d3:Nat) (bs:List B6) (hs:List H3) (P:List (Nat × List RT)) (X:List (Nat × TypeId × Array Value)) (u:Vz):Prop where
 base:Bl w u
 box:SB u B0 26 #[.slice a1 nj c1,.slice b2 bs.length d2,.slice b3 hs.length d3]
 b:LAt B6.cells 84 u w.heap.size b2 d2 bs
 h:LAt H3.cells 86 u w.heap.size b3 d3 hs
 ps:∀x,x∈ P->PBlk u x.1 x.2
 xs:∀x,x∈ X->SB u x.1 x.2.1 x.2.2/\x.2.1≠41
section
variable {w u u':Vz} {B0 c1 nj d2 d3:Nat} {a1 b2 b3:Vx} {bs:List B6} {hs:List H3} {P:List (Nat × List RT)} {X:List (Nat × TypeId × Array Value)}
theorem BK.below(h:BK w B0 a1 c1 nj b2 b3 d2 d3 bs hs P X u)(a:Bl u u'):BK w B0 a1 c1 nj b2 b3 d2 d3 bs hs P X u':=
 ⟨h.base.trans (a.mono h.base.size),h.box.below a h.box.lt,h.b.below a,h.h.below a,fun x c=>(h.ps x c).below a,fun x c=>⟨(h.xs x c).1.below a (h.xs x c).1.lt,(h.xs x c).2⟩⟩
theorem PBlk.fault{g k:Nat}{x y:Int}{ts:List RT}(h:PBlk u g ts)(a:Only k u u')(hs:SB u k 41 #[.int .i64 x,.int .i64 y]):PBlk u' g ts:=
 ⟨h.blk.only a (h.blk.unlike hs (by decide)),fun t b=>⟨(h.vs t b).1.only32 a hs (by decide) (fun i n h=>by match i,h with|0,h=>simp at h|1,h=>simp at h|i+2,h=>simp at h),(h.vs t b).2⟩⟩
theorem BK.fault{k:Nat}{x y:Int}(h:BK w B0 a1 c1 nj b2 b3 d2 d3 bs hs P X u)(a:Only k u u')(hk:SB u k 41 #[.int .i64 x,.int .i64 y])(hB:w.heap.size<=k):BK w B0 a1 c1 nj b2 b3 d2 d3 bs hs P X u':=
 ⟨Only.fresh h.base a hB,h.box.only a (h.box.unlike hk (by decide)),h.b.only a hk (by decide),h.h.only a hk (by decide),fun x c=>(h.ps x c).fault a hk,fun x c=>⟨(h.xs x c).1.only a ((h.xs x c).1.unlike hk (h.xs x c).2),(h.xs x c).2⟩⟩
theorem BK.addP{g:Nat}{ts:List RT}(h:BK w B0 a1 c1 nj b2 b3 d2 d3 bs hs P X u)(c:PBlk u g ts):BK w B0 a1 c1 nj b2 b3 d2 d3 bs hs ((g,ts) :: P) X u:=
 ⟨h.base,h.box,h.b,h.h,fun x a=>by
   rcases List.mem_cons.1 a with rfl|a
   . exact c
   . exact h.ps x a,h.xs⟩
theorem BK.addX{g:Nat}{t:Vr}{C:Vw}(h:BK w B0 a1 c1 nj b2 b3 d2 d3 bs hs P X u)(a:SB u g t C)(c:t≠41):BK w B0 a1 c1 nj b2 b3 d2 d3 bs hs P ((g,t,C) :: X) u:=
 ⟨h.base,h.box,h.b,h.h,h.ps,fun x d=>by
   rcases List.mem_cons.1 d with rfl|d
   . exact⟨a,c⟩
   . exact h.xs x d⟩
theorem BK.frow(h:BK w B0 a1 c1 nj b2 b3 d2 d3 bs hs P X u){a:List S2}(c:ARow S2.cells w a1 c1 a):FrRow u a1 b2 b3 c1 d2 d3 a bs hs:=⟨c.below h.base,h.b.row,h.h.row⟩
end
def MvF(nj nb:Nat)(vb:List (Nat × Nat × Rat × Rat))(vh:Vy)(cv a:Vec)(KM:Nat):Fact:=fun v w=>∃(p1 p2 p3:Vx) (n1 n2 n3:Nat) (cd:Int),v=.tuple #[.agg #[.slice p1 n1 n1,.slice p2 n2 n2,.slice p3 n3 n3],.agg #[.int .i64 cd,.int .i64 0]]/\MovedIs nj nb vb vh cv a KM p1 p2 n1 n2 cd w
theorem Qfm{a:List S2}{bs:List B6}{hs:List H3}{k:List (Nat × Nat × Rat × Rat)}{vh:Vy}{l:Vec}{m n:Nat}(o:QN a bs hs k vh l)(B:FrSized a bs hs)(p:FrameFault a bs hs 0 0){w:Vz}{a1 q r s:Vx}{c1 c2 c3 t:Nat}(C:Glob w)(D:FrRow w a1 q r c1 c2 c3 a bs hs){f:List L3}{vs:List (Nat × Rat × Rat)}(hl:ARow L3.cells w s t f)(F:f.length=n)(d:n<=20)(g:LVal f vs)(z:∀(i:Nat) (x:L3),f[i]?=some x->IsJ a.length x.j)(G:jW a+bW bs+hW hs+lW f<=1048676)(H:m=184573702):
 Calls prog 15 #[.agg #[.slice a1 a.length c1,.slice q bs.length c2,.slice r hs.length c3],.slice s n t] w (Makes w (MvF a.length bs.length k vh l (agn vs) m)):=by
 subst F;obtain⟨P,b,Q,c,v,A⟩:=o.over d g z G;obtain⟨E,I⟩:∃E,E=8389708:=⟨_,rfl⟩;rw[<-I] at A;have hk:kC E=m:=by simp only[kC];omega
 refine(Qih a1 q r s c1 c2 c3 t (2*a.length) P b Q c E 83886121 a bs hs k vh l (fun _=>0) (fun _=>0) f vs w (o.givV C D) B p hl d g.len (g.loadV z) (g.fits d) (by decide) (by decide) v A (by omega) (by omega)).mono fun e T h=>?_
 rw[hk] at h;obtain⟨J,K,L,n1,M,N,O,y,R,S⟩:=h.form o.fv;exact⟨_,y,S,J,K,L,n1,M,N,O,rfl,R⟩
theorem Qpo{a:List S2}{bs:List B6}{hs:List H3}{n:List (Nat × Nat × Rat × Rat)}{vh:Vy}{d t:Vec}{b:Nat}(r:QN a bs hs n vh d)(x:FrSized a bs hs)(f:FrameFault a bs hs 0 0){w:Vz}{a1 h k:Vx}{c1 c2 c3 g ct:Nat}(y:Glob w)(z:FrRow w a1 h k c1 c2 c3 a bs hs){l:Vt}(o:SB w g 32 (textsV l).toArray)(m:TextsOf bs.length t l)(c:∀i,i<bs.length->Fits (t i) b)(A:b=184573702):
 Calls prog 19 #[.agg #[.slice a1 a.length c1,.slice h bs.length c2,.slice k hs.length c3],.slice (some ⟨g,0,none⟩) bs.length ct] w (Makes w (fun v _=>∃s:Vs,v=.tuple #[.string s,.agg #[.int .i64 0,.int .i64 0]]/\QText s.data.toList (dot bs.length t (fun i=>t i / d i)*(1 / 2)))):=by
 refine(Qii a1 h k (some ⟨g,0,none⟩) c1 c2 c3 ct (2*a.length) b (b+b+4194305) a bs hs n vh d (fun _=>0) (fun _=>0) t l w (r.givV y z) x f ⟨fun j u B=>⟨g,0,rfl,o.lt,by rw[Nat.zero_add,o.cell];simpa using B⟩⟩ m.1 (fun i s hs=>?_) (1 / 2) qtext_half.back (by omega) rfl (by omega)).mono fun e E ⟨⟨s,C,hs⟩,D⟩=>⟨_,C,D,s,rfl,hs⟩
 have p:=m.2 i s hs;have q:=c i (by have:=(gZ hs).1;have:=m.1;omega);exact⟨p.back,by have:=p.lenG q;omega,q⟩
def MtF(N KX B:Nat)(m:Vec):Fact:=fun v w=>∃ts:List RT,PGrow w B v ts/\ts.length=N/\∀j,j<N->∃t,ts[j]?=some t/\t.2.1=m j/\t.2.2=KX
theorem MtF.stays(N a B:Nat)(m:Vec):Stays (MtF N a B m):=fun _ _ _ b ⟨ts,c,d⟩=>⟨ts,c.below b,d⟩
theorem Qfn{w:Vz}{g nj N B b c:Nat}{a:List S2}{m:Vec}(n:Glob w)(hs:SB w g 34 (a.flatMap S2.cells).toArray)(hl:a.length=nj)(o:nj<=10)(p:2*nj=N)(d:SpotsTold m a)(f:∀r,r<N->Fits (m r) b)(q:b=184573702)(x:c=492196553)(hB:B<=w.heap.size):Calls prog 30 #[.slice (some ⟨g,0,none⟩) nj nj] w (Makes w (MtF N c B m)):=by
 subst hl;refine(Qqv (some ⟨g,0,none⟩) a.length 123049138 a w n.most (hs.arow (by simp) lZ) (by omega) (by decide) (fun s hs=>?_)).mono fun e F ⟨v,ts,y,h,k,z⟩=>⟨v,y,z,ts,⟨Grow.mono h.list hB,h.vs⟩,by rw[k.len];exact p,fun j o=>?_⟩
 .
  obtain⟨i,l⟩:=List.getElem?_of_mem hs;have A:=(gZ l).1;obtain⟨k1,k2⟩:=d i s l;have G:=k1.lenG (f _ (by omega));have H:=k2.lenG (f _ (by omega));omega
 . obtain⟨t,C,D,E⟩:=Qps k d j (by omega)
   exact⟨t,C,D,by rw[E];omega⟩
theorem Qfo{w:Vz}{a b:Vx}{ca cb N K1 K2 K:Nat}{xs ys:List RT}(f:PRow w a xs)(h:PRow w b ys)(i:xs.length=N)(j:ys.length=N)(d:N<=20)(k:∀t,t∈ xs->t.2.2<=K1)(l:∀t,t∈ ys->t.2.2<=K2)(m:K=20*(K1+K2+2)+1)(c:21*(K1+K2+2)<274877906000):
 Calls prog 33 #[.slice a N ca,.slice b N cb] w (Makes w (RF (dot N (qv xs) (qv ys)) K)):=by
 subst i;refine(Qqw a b ca cb K1 K2 xs ys w f h j d k l c).mono fun e r ⟨g,n,o,p,_,q⟩=>⟨_,n,q,g,rfl,o,p.mono ?_,by omega⟩
 rw[m];exact Nat.succ_le_succ (Nat.mul_le_mul_right _ d)
theorem Qfp(q:Rat):cmpQ q q=0:=by
 unfold cmpQ;exact(Qed _ _).2 rfl
theorem Qpp(w:Vz):Calls prog 35 #[.int .i64 2] w (Makes w (RF 2 2)):=(ref_N 2 w (by decide)).mono fun e a h=>h.makes (q:=2) (by exact⟨by decide,by decide⟩) (by decide)
def BoF(nj nb:Nat)(vb:List (Nat × Nat × Rat × Rat))(vh:Vy)(cv a:Vec)(KM:Nat)(c d:Int):Fact:=fun v w=>∃(p1 p2 p3:Vx) (n1 n2 n3:Nat) (cd:Int),v=.tuple #[.agg #[.slice p1 n1 n1,.slice p2 n2 n2,.slice p3 n3 n3],.agg #[.int .i64 cd,.int .i64 0]]/\(c=0->d=0->cd=0/\MovedOK nj nb vb vh cv a KM p1 p2 n1 n2 w)
def BoM(nj nb:Nat)(vb:List (Nat × Nat × Rat × Rat))(vh:Vy)(cv a:Vec)(KM:Nat)(c d:Int):Fact:=fun v w=>∃(p1 p2 p3:Vx) (n1 n2 n3:Nat),v=.agg #[.slice p1 n1 n1,.slice p2 n2 n2,.slice p3 n3 n3]/\(c=0->d=0->MovedOK nj nb vb vh cv a KM p1 p2 n1 n2 w)
def BoC(c d:Int):Fact:=fun v w=>∃cd:Int,v=.agg #[.int .i64 cd,.int .i64 0]/\(c=0->d=0->cd=0)
section
variable {nj nb KM B:Nat} {vb:List (Nat × Nat × Rat × Rat)} {vh:Vy} {cv a:Vec} {c d:Int} {xs ys:Vv}
theorem BoF.stays:StaysX (ApR 36 47 B xs ys) (BoF nj nb vb vh cv a KM c d):=fun _ _ _ b ⟨f,g,i,n1,j,m,n,e,h⟩=>⟨f,g,i,n1,j,m,n,e,fun k l=>⟨(h k l).1,(h k l).2.apR b⟩⟩
theorem BoM.stays:StaysX (ApR 36 47 B xs ys) (BoM nj nb vb vh cv a KM c d):=fun _ _ _ b ⟨f,g,i,n1,j,m,e,h⟩=>⟨f,g,i,n1,j,m,e,fun k l=>(h k l).apR b⟩
theorem BoC.stays{R:World->World->Prop}:StaysX R (BoC c d):=fun _ _ _ _ h=>h
end
theorem Qfs{N f:Nat}{b ty:List RT}{a m:Vec}(g:∀(i:Nat) (t:RT),b[i]?=some t->t.2.1= -a i/\t.2.2<=kL 20)(hl:b.length=N)(h:∀j,j<N->∃t,ty[j]?=some t/\t.2.1=m j/\t.2.2=f):dot N (qv b) (qv ty)= -dot N a m:=by
 have e:dot N (qv b) (qv ty)=dot N (fun i=>-1*a i) m:=Qac _ _ _ _ _ (fun i k=>by
  obtain⟨t,l,n,_⟩:=h i k;rw[qv_at l,n,qv_at (gE (by omega)),(g i _ (gE (by omega))).1]
  show -a i*m i= -1*a i*m i
  grind)
 rw[e,Giv.dc,Giv.d_mul,Giv.dc];grind
theorem Qft{N K:Nat}{ts:List RT}{m:Vec}(hl:ts.length=N)(h:∀j,j<N->∃t,ts[j]?=some t/\t.2.1=m j/\t.2.2=K):∀t,t∈ ts->t.2.2<=K:=fun t f=>by
 obtain⟨j,b⟩:=List.getElem?_of_mem f;obtain⟨g,e,_,i⟩:=h j (by rw[<-hl];exact(gZ b).1);rw[b] at e;cases e;omega
theorem PRow.rf{w:Vz}{a:Vx}{ts:List RT}(h:PRow w a ts){t:RT}(b:t∈ ts){K:Nat}{q:Rat}(e:t.2.2=K)(f:t.2.1=q):RF q K (.pointer (some ⟨t.1,0,none⟩)) w:=by
 subst e f;obtain⟨g,i,j⟩:=h.vs t b;exact⟨t.1,rfl,g,i,j⟩
theorem Qpt(a1 a2 a3 al bl:Vx)(c1 c2 c3 cl dl:Nat)(p:List S2)(bs:List B6)(hs:List H3)(ls lt:List L3)(vs vt:List (Nat × Rat × Rat))(w:Vz)(hg:Glob w)(hf:FrRow w a1 a2 a3 c1 c2 c3 p bs hs)(hz:FrSized p bs hs)(hl:ARow L3.cells w al cl ls)(hv:LVal ls vs)(ir:ARow L3.cells w bl dl lt)(it:LVal lt vt)
 (n2:bs.length<=1048576) (n3:hs.length<=1048576) (iu:ls.length<=1048576) (k5:lt.length<=1048576) (hT:jW p+bW bs+lW ls+lW lt<=1048576):
 Calls prog 4 #[.agg #[.slice a1 p.length c1,.slice a2 bs.length c2,.slice a3 hs.length c3],.slice al ls.length cl,.slice bl lt.length dl] w fun e w'=>e=.returned (.bool true)/\Below w.heap.size w w':=by
 obtain⟨HG,HF,HL,HV⟩:=Ic hg hf hl hv;have fp:=Hi ir;have fq:=Hi it;obtain⟨HZ,HT⟩:=Ia hz hT;clear hg hf hl hv ir it hz hT;obtain⟨C,fr⟩:=nm w.heap.size;obtain⟨V,hV⟩:=nm (w.alloc (.cells #[.slice a1 p.length c1,.slice a2 bs.length c2,.slice a3 hs.length c3] 26));have dp:=Ua hV;have fs:=Uf hV fr;obtain⟨iw,ix,k6⟩:=Ib (Qpn V (HG.o.below dp.o)) hV fr;have k7:w.heap.size<=C:=by omega
 clear hV fr;go_enter func4,ntmps4;go_wp2_with fail;rw[ix.o,k6.o];go_fit iw.o;rintro e w1 ⟨rfl,ft⟩;obtain⟨bb,bc⟩:=Ia (dp.o.trans (ft.mono dp.o.size)) (fs.o.below ft fs.o.lt);have x0:w1.cell? ⟨C,0,none⟩=some (.slice a1 p.length c1):=by
  have h:=bc.o.cell 0
  simpa using h
 have x1:w1.cell? ⟨C,1,none⟩=some (.slice a2 bs.length c2):=by
  have h:=bc.o.cell 1
  simpa using h
 have x2:w1.cell? ⟨C,2,none⟩=some (.slice a3 hs.length c3):=by
  have h:=bc.o.cell 2
  simpa using h
 have HQ:=Hi (Qpc a1 a2 a3 c1 c2 c3 p bs hs w1 (HF.o.below bb.o) n2 n3);clear ft ix iw dp fs;go_wp2_with fail;refine Makes.use HQ.o ?_;rintro _ w2 fu ⟨b2,b3,d2,d3,rfl,bd,fw⟩;clear x0 x1 x2 HQ;obtain⟨q,dq⟩:=nm (bs.map qBar);obtain⟨R,dr⟩:=nm (hs.map qHold);rw[dq] at bd ⊢;rw[dr] at fw ⊢;have ad:=bc.o.below fu bc.o.lt;have y0:w2.cell? ⟨C,0,none⟩=some (.slice a1 p.length c1):=by
  have h:=ad.cell 0
  simpa using h
 have y1:w2.cell? ⟨C,1,none⟩=some (.slice a2 bs.length c2):=by
  have h:=ad.cell 1
  simpa using h
 have y2:w2.cell? ⟨C,2,none⟩=some (.slice a3 hs.length c3):=by
  have h:=ad.cell 2
  simpa using h
 have f0:=ad.free 0;have f1:=ad.free 1;have f2:=ad.free 2;have T:=(((Only.refl C w2).setCell 0 (.slice a1 p.length c1)).setCell 1 (.slice b2 q.length d2)).setCell 2 (.slice b3 R.length d3);have m:=((ad.set 0 (.slice a1 p.length c1)).set 1 (.slice b2 q.length d2)).set 2 (.slice b3 R.length d3);simp only[List.setIfInBounds_toArray,List.set_cons_zero,List.set_cons_succ] at m;obtain⟨U2,fx⟩:=nm (((w2.setCell ⟨C,0,none⟩ (.slice a1 p.length c1)).setCell ⟨C,1,none⟩ (.slice b2 q.length d2)).setCell ⟨C,2,none⟩ (.slice b3 R.length d3));rw[fx] at T m;have aw:O (BK w C a1 c1 p.length b2 b3 d2 d3 q R [] [] U2):=Hi ⟨Only.fresh (bb.o.trans (fu.mono bb.o.size)) T k7,m,(bd.mono bb.o.size).only T ad (by decide),(fw.mono bb.o.size).only T ad (by decide),(fun x hx=>by cases hx),(fun x hx=>by cases hx)⟩;obtain⟨fy,fz⟩:=Ia dq dr
 have be:O (FrSized p q R):=Hi (by rw[<-dq,<-dr];exact Qdw HZ.o);obtain⟨ga,bu⟩:=Ia fx (Qjg a1 b2 b3 al c1 d2 d3 cl p q R ls vs U2 (HG.o.below aw.o.base) (aw.o.frow HF.o.j) be.o (HL.o.below aw.o.base) HV.o iu);clear fu bd fw dq dr ad T m fx bc bb;have m:=aw.o.box;have x0:U2.cell? ⟨C,0,none⟩=some (.slice a1 p.length c1):=by
  have h:=m.cell 0
  simpa using h
 have x1:U2.cell? ⟨C,1,none⟩=some (.slice b2 q.length d2):=by
  have h:=m.cell 1
  simpa using h
 have x2:U2.cell? ⟨C,2,none⟩=some (.slice b3 R.length d3):=by
  have h:=m.cell 2
  simpa using h
 clear m;rw[<-ga.o] at x0 x1 x2;go_wp2_with fail;rw[ga.o];go_fit bu.o;rintro e w4 ⟨ds,lv,c,gb,rfl,ah⟩;clear x0 x1 x2 y0 y1 y2 f0 f1 f2 bu;have em:=Hi ah;obtain⟨U4,dt⟩:=nm (w4.alloc (.cells #[.int .i64 c,.int .i64 gb] 41));obtain⟨G,hG⟩:=nm w4.heap.size;have gc:Bl w4 U4:=by rw[<-dt];exact(Below.refl _ _).alloc lZ _
 obtain⟨bv,en⟩:=Ia (aw.o.below (ds.trans (gc.mono ds.size))) (aw.o.below ds);have du:=Uf dt hG;have iy:O (w.heap.size<=G):=Hi (by rw[<-hG];exact en.o.base.size);obtain⟨k8,iz,k9,bu⟩:=Ic gc dt hG (Qjg a1 b2 b3 bl c1 d2 d3 dl p q R lt vt U4 (HG.o.below bv.o.base) (bv.o.frow HF.o.j) be.o (fp.o.below bv.o.base) fq.o k5);have m:=bv.o.box;have x0:U4.cell? ⟨C,0,none⟩=some (.slice a1 p.length c1):=by
  have h:=m.cell 0
  simpa using h
 have x1:U4.cell? ⟨C,1,none⟩=some (.slice b2 q.length d2):=by
  have h:=m.cell 1
  simpa using h
 have x2:U4.cell? ⟨C,2,none⟩=some (.slice b3 R.length d3):=by
  have h:=m.cell 2
  simpa using h
 clear m;rw[<-iz.o] at x0 x1 x2;clear ah dt hG gc ds aw ga en;go_wp2_with fail;rw[iz.o,k9.o];go_fit bu.o;rintro e w5 ⟨dv,la,c',gd,rfl,ah⟩;clear x0 x1 x2 bu;have bw:=Hi ah;obtain⟨U5,b0⟩:=nm (w5.alloc (.cells #[.int .i64 c',.int .i64 gd] 41));obtain⟨H,hH⟩:=nm w5.heap.size;have ge:Bl w5 U5:=by rw[<-b0];exact(Below.refl _ _).alloc lZ _
 have dw:=dv.trans (ge.mono dv.size);obtain⟨b1,a8⟩:=Ia (bv.o.below dw) (du.o.below dw du.o.lt);have ea:=Uf b0 hH;have eb:O (G≠H/\w.heap.size<=H):=Hi (by
  have h1:=du.o.lt;have h2:=dv.size;have h3:=iy.o
  omega)
 obtain⟨p0,-⟩:=zc a8.o;obtain⟨p1,-⟩:=zc ea.o;obtain⟨lb,lc,b4,ld⟩:=Ic dw ge b0 hH;rw[<-b0] at p0 p1;rw[<-hH] at p1;clear ah b0 hH ge dw dv du;by_cases hc:c=0
 .
  subst hc;by_cases hd:c'=0
  .
   subst hd;obtain⟨S,hS⟩:∃S:Nat,ls.length+lt.length=S:=⟨_,rfl⟩;have q9:IntKind.i64.wrap ((ls.length:Int)+(lt.length:Int))=(S:Int):=by rw[Qam _ (by omega) (by omega)];omega
   have HS:=Hi hS;clear hS;by_cases me:20<S
   .
    have q8:((20:Int)<(S:Int)):=by omega
    go_wp2;rw[b4.o];go_ret;exact⟨rfl,b1.o.base⟩
   .
    have q8:decide ((20:Int)<(S:Int))=false:=by simp;omega
    obtain⟨gf,i0,rfl,gP,I,tp,gg,rfl,i1,i2,i3⟩:FrameFault p q R 0 0/\LoadsFault p.length (q.length+R.length) ls 0 gb/\gb=0/\∃(g N:Nat) (ts:List RT),N=2*p.length/\lv=.slice (some ⟨g,0,none⟩) N N/\PBlk w4 g ts/\ts.length=N/\∀(i:Nat) (t:RT),ts[i]?=some t->t.2.1= -agn vs i/\t.2.2<=kL 20:=by
     rcases em.o with ⟨h,_⟩|⟨h1,h2,⟨h,_⟩|⟨_,h3,h4⟩⟩
     . exact absurd rfl h
     . exact absurd rfl h
     . exact⟨h1,h2,h3,h4⟩
    obtain⟨_,eo,rfl,gQ,NQ,tq,i4,rfl,bd,i5,i6⟩:FrameFault p q R 0 0/\LoadsFault p.length (q.length+R.length) lt 0 gd/\gd=0/\∃(g N:Nat) (ts:List RT),N=2*p.length/\la=.slice (some ⟨g,0,none⟩) N N/\PBlk w5 g ts/\ts.length=N/\∀(i:Nat) (t:RT),ts[i]?=some t->t.2.1= -agn vt i/\t.2.2<=kL 20:=by
     rcases bw.o with ⟨h,_⟩|⟨h1,h2,⟨h,_⟩|⟨_,h3,h4⟩⟩
     . exact absurd rfl h
     . exact absurd rfl h
     . exact⟨h1,h2,h3,h4⟩
    obtain rfl:I=NQ:=gg.trans i4.symm;obtain⟨vb,vh,cv,b5⟩:∃vb vh cv,QN p q R vb vh cv:=by
     have h1:=gf;rw[<-fy.o,<-fz.o] at h1 ⊢;exact Qpq HZ.o h1
    have nj:=b5.fv.j;have nb:=b5.fv.b;have nh:=b5.fv.h;obtain⟨ai,ec,gh⟩:=Ib b5 gf i0.zero.2.1;have ep:=Hi eo.zero.2.1;have ed:O (jW p+bW q+hW R+(lW ls+lW lt)<=1048676):=Hi (by
     have h1:=Qiv bs;have h2:=Qiw hs;have h3:=HT.o;have M:bs.length=q.length:=by rw[<-fy.o,List.length_map]
     have e2:hs.length=R.length:=by rw[<-fz.o,List.length_map]
     rw[fy.o] at h1;rw[fz.o] at h2
     omega)
    have bf:O (BK w C a1 c1 p.length b2 b3 d2 d3 q R [(gQ,tq),(gP,tp)] [] U5):=Hi ((b1.o.addP ((i1.below k8.o).below lb.o)).addP (bd.below lc.o));obtain⟨ae,a0,b6,gj⟩:=Ic gg (And.intro i2 i5) i3 i6;obtain⟨KM,gk⟩:∃KM,KM=184573702:=⟨_,rfl⟩;have U:=Hi gk;have b7:ls.length<=20/\lt.length<=20:=by have:=HS.o;omega
    obtain⟨b8,i7⟩:=Ia b7 (Qfm ai.o be.o ec.o (HG.o.below bf.o.base) (bf.o.frow HF.o.j) (HL.o.below bf.o.base) rfl b7.1 HV.o gh.o (by have:=ed.o;omega) gk);have m:=bf.o.box;have x0:U5.cell? ⟨C,0,none⟩=some (.slice a1 p.length c1):=by
     have h:=m.cell 0
     simpa using h
    have x1:U5.cell? ⟨C,1,none⟩=some (.slice b2 q.length d2):=by
     have h:=m.cell 1
     simpa using h
    have x2:U5.cell? ⟨C,2,none⟩=some (.slice b3 R.length d3):=by
     have h:=m.cell 2
     simpa using h
    clear m;rw[<-b4.o] at x0 x1 x2;clear gf i0 i1 i2 i3 eo bd i5 i6 gg i4 b5 gk b7 em bw b1;go_wp2_with fail;rw[b4.o,ld.o];refine Makes.use i7.o ?_;rintro _ w8 gl ⟨aj,ak,b9,m1,m2,m3,cd,rfl,cc⟩;clear x0 x1 x2 p0 p1 i7;obtain⟨V8,cf⟩:=nm (w8.alloc (.cells #[.slice aj m1 m1,.slice ak m2 m2,.slice b9 m3 m3] 47));obtain⟨M1,gm⟩:=nm w8.heap.size;have gn:Bl w8 V8:=by rw[<-cf];exact(Below.refl _ _).alloc lZ _
    have ee:=gl.trans (gn.mono gl.size);have cg:SB V8 M1 47 #[.slice aj m1 m1,.slice ak m2 m2,.slice b9 m3 m3]:=by rw[<-cf,<-gm];exact SB.new w8 _ _
    have X:=a8.o.below ee a8.o.lt;have aa:=ea.o.below ee ea.o.lt;have ho:=((Only.refl G V8).setCell 0 (.int .i64 cd)).setCell 1 (.int .i64 0);obtain⟨y0,y1,-⟩:=zc X;have f0:=X.free 0;have f1:=X.free 1;have A:=(X.set 0 (.int .i64 cd)).set 1 (.int .i64 0);simp only[List.setIfInBounds_toArray,List.set_cons_zero,List.set_cons_succ] at A;obtain⟨U8,gp⟩:=nm ((V8.setCell ⟨G,0,none⟩ (.int .i64 cd)).setCell ⟨G,1,none⟩ (.int .i64 0));rw[gp] at ho A;have bh:O (BK w C a1 c1 p.length b2 b3 d2 d3 q R [(gQ,tq),(gP,tp)] [(M1,47,#[.slice aj m1 m1,.slice ak m2 m2,.slice b9 m3 m3])] U8):=Hi (((bf.o.below ee).addX cg (by decide)).fault ho X iy.o);obtain⟨ch,ci⟩:=Ia A (aa.only ho eb.o.1.symm)
    have eq:O (MovedIs p.length q.length vb vh cv (agn vs) KM aj ak m1 m2 cd U8):=Hi (by
     rcases cc with h|⟨h1,h2⟩
     . exact .inl h
     . exact .inr ⟨h1,(h2.below gn).only ho X (by decide) (by decide)⟩)
    obtain⟨gq,er,gr⟩:=Ib cf gm gp;rw[<-cf] at y0 y1 f0 f1;clear gl cc cf gm gn ee cg X aa ho A gp a8 ea bf;have i8:=Hi (Qfm ai.o be.o ec.o (HG.o.below bh.o.base) (bh.o.frow HF.o.j) (fp.o.below bh.o.base) rfl b8.o.2 fq.o ep.o (by have:=ed.o;omega) U.o);have m:=bh.o.box;have x0:U8.cell? ⟨C,0,none⟩=some (.slice a1 p.length c1):=by
     have h:=m.cell 0
     simpa using h
    have x1:U8.cell? ⟨C,1,none⟩=some (.slice b2 q.length d2):=by
     have h:=m.cell 1
     simpa using h
    have x2:U8.cell? ⟨C,2,none⟩=some (.slice b3 R.length d3):=by
     have h:=m.cell 2
     simpa using h
    clear m;rw[<-gr.o,<-gq.o] at x0 x1 x2;go_wp2_with fail;rw[gq.o,gr.o,er.o];refine Makes.use i8.o ?_;rintro _ w9 gs ⟨bi,bj,ef,m4,m5,m6,F,rfl,cc⟩;clear x0 x1 x2 y0 y1 f0 f1 i8;obtain⟨V9,cj⟩:=nm (w9.alloc (.cells #[.slice bi m4 m4,.slice bj m5 m5,.slice ef m6 m6] 47));obtain⟨M2,gt⟩:=nm w9.heap.size;have gu:Bl w9 V9:=by rw[<-cj];exact(Below.refl _ _).alloc lZ _
    have ck:=gs.trans (gu.mono gs.size);have cg:SB V9 M2 47 #[.slice bi m4 m4,.slice bj m5 m5,.slice ef m6 m6]:=by rw[<-cj,<-gt];exact SB.new w9 _ _
    have X:=ch.o.below ck ch.o.lt;have aa:=ci.o.below ck ci.o.lt;have ho:=((Only.refl H V9).setCell 0 (.int .i64 F)).setCell 1 (.int .i64 0);obtain⟨y0,y1,-⟩:=zc aa;have f0:=aa.free 0;have f1:=aa.free 1;have A:=(aa.set 0 (.int .i64 F)).set 1 (.int .i64 0);simp only[List.setIfInBounds_toArray,List.set_cons_zero,List.set_cons_succ] at A;obtain⟨U9,gv⟩:=nm ((V9.setCell ⟨H,0,none⟩ (.int .i64 F)).setCell ⟨H,1,none⟩ (.int .i64 0));rw[gv] at ho A;obtain⟨Y,hY⟩:=nm U9.drew;have bk:Bl U9 Y:=by rw[<-hY];exact(Below.refl _ _).drew
    have am:O (BK w C a1 c1 p.length b2 b3 d2 d3 q R [(gQ,tq),(gP,tp)] [(M2,47,#[.slice bi m4 m4,.slice bj m5 m5,.slice ef m6 m6]),(M1,47,#[.slice aj m1 m1,.slice ak m2 m2,.slice b9 m3 m3])] Y):=Hi ((((bh.o.below ck).addX cg (by decide)).fault ho aa eb.o.2).below bk);obtain⟨cm,cn⟩:=Ia ((X.only ho eb.o.1).below bk (X.only ho eb.o.1).lt) (A.below bk A.lt);have cp:O (MovedIs p.length q.length vb vh cv (agn vs) KM aj ak m1 m2 cd Y):=Hi (by
     rcases eq.o with h|⟨h1,h2⟩
     . exact .inl h
     . exact .inr ⟨h1,(((h2.below ck).only ho aa (by decide) (by decide)).below bk)⟩)
    have cq:O (MovedIs p.length q.length vb vh cv (agn vt) KM bi bj m4 m5 F Y):=Hi (by
     rcases cc with h|⟨h1,h2⟩
     . exact .inl h
     . exact .inr ⟨h1,(((h2.below gu).only ho aa (by decide) (by decide)).below bk)⟩)
    obtain⟨le,i9,lf,lg⟩:=Ic cj gt gv hY;rw[<-cj] at y0 y1 f0 f1;clear gs cc cj gt gu ck cg X aa ho A gv hY bk ch ci bh eq gq gr er;obtain⟨es,et⟩:=Ia (HL.o.below am.o.base) (fp.o.below am.o.base);go_wp2_with fail;refine RegX.bg (ApR 36 47 Y.heap.size (ls.flatMap L3.cells) (lt.flatMap L3.cells)) 11 (fun j=>some (bif j == 6 then 65 else bif j == 7 then 72 else bif j == 8 then 73 else bif j == 9 then 13 else bif j == 10 then 14 else 66+j)) ?_;rw[le.o,i9.o,lf.o,lg.o];clear y0 y1 f0 f1;have an:RelOK (ApR 36 47 Y.heap.size (ls.flatMap L3.cells) (lt.flatMap L3.cells)):=ApR.ok;refine RegX.pu an (c:=?_) [] (fun w l=>?_) ?_;rotate_left
    .
     intro K f;have m:=am.o.box;have d0:w.cell? ⟨C,0,none⟩=some (.slice a1 p.length c1):=by
      have h:=(m.below (l.below lZ) m.lt).cell 0
      simpa using h
     have d1:w.cell? ⟨C,1,none⟩=some (.slice b2 q.length d2):=by
      have h:=(m.below (l.below lZ) m.lt).cell 1
      simpa using h
     have d2:w.cell? ⟨C,2,none⟩=some (.slice b3 R.length d3):=by
      have h:=(m.below (l.below lZ) m.lt).cell 2
      simpa using h
     clear m;go_simp;exact f
    refine RegX.pu an (c:=?_) [] (fun w l=>?_) ?_;rotate_left
    .
     intro K f;go_simp;exact f
    refine RegX.ca (φ:=fun v w=>Grow w Y.heap.size 36 3 AnyV v ls.length (ls.flatMap L3.cells)) [1] Grow.staysX (fun w l=>?_) ?_
    .
     intro K f;go_simp;exact(Qo9 al cl ls w (es.o.below (l.below lZ)) iu).mono (fun e w' ⟨⟨v,he,hg⟩,gw⟩=>by subst he;exact f v w' (ApR.of_below gw) (Grow.mono hg l.size))
    refine RegX.pu an (c:=?_) [] (fun w l=>?_) ?_;rotate_left
    .
     intro K f;go_simp;exact f
    refine RegX.ca (φ:=fun v w=>Grow w Y.heap.size 36 3 AnyV v (ls.length+lt.length) (ls.flatMap L3.cells++lt.flatMap L3.cells)) [2,3] Grow.staysX2 (fun w l=>?_) ?_
    .
     intro v2 h2 K f;obtain⟨v',w',md,hg,hR⟩:=Qpy 27 h2 (et.o.below (l.below lZ)) (by have:=b8.o;omega) l.size;obtain⟨lh,li⟩:=Ia hg hR;clear hg hR h2;go_simp;exact f _ _ li.o lh.o
    refine RegX.ca (φ:=BoF p.length q.length vb vh cv (fun i=>agn vs i+agn vt i) KM cd F) [0,4] BoF.stays (fun w l=>?_) ?_
    .
     intro v4 h4 K f;rw[<-List.flatMap_append] at h4;obtain⟨a4,c4,rfl,ja⟩:=LAt.of h4 (List.length_append);have g0:=l.below lZ;have jb:=Qfm (n:=ls.length+lt.length) ai.o be.o ec.o (HG.o.below (am.o.base.trans (g0.mono am.o.base.size))) ((am.o.below g0).frow HF.o.j) ja.row (List.length_append) (by have:=HS.o;omega) (HV.o.both fq.o) (fun i x hx=>by
      rcases Nat.lt_or_ge i ls.length with h|h
      . rw[List.getElem?_append_left h] at hx
        exact gh.o i x hx
      . rw[List.getElem?_append_right h] at hx
        exact ep.o _ x hx) (by rw[Qiu];exact ed.o) U.o
     have jc:=Hi jb;clear jb h4 ja g0;go_simp;refine Makes.use jc.o (fun v w' gw h=>f v w' (ApR.of_below gw) ?_);obtain⟨p1,p2,p3,k1,k2,k3,ce,rfl,hm⟩:=h;refine⟨p1,p2,p3,k1,k2,k3,ce,rfl,fun M e2=>?_⟩;rw[Qo4] at hm;rcases hm with ⟨_,lj⟩|hm
     .
      obtain⟨_,_,_,_,_,_,x,_,_,_,_,_,_,_,hx,_⟩:MovedOK p.length q.length vb vh cv (agn vs) KM aj ak m1 m2 Y:=by
       rcases cp.o with ⟨h,_⟩|⟨_,h⟩
       . exact absurd M h
       . exact h
      obtain⟨_,_,_,_,_,_,y,_,_,_,_,_,_,_,hy,_⟩:MovedOK p.length q.length vb vh cv (agn vt) KM bi bj m4 m5 Y:=by
       rcases cq.o with ⟨h,_⟩|⟨_,h⟩
       . exact absurd e2 h
       . exact h
      exact absurd ⟨_,hx.add hy⟩ lj
     . exact hm
    refine RegX.ca (φ:=BoF p.length q.length vb vh cv (fun i=>agn vs i+agn vt i) KM cd F) [5] BoF.stays (fun w l=>?_) ?_
    .
     intro v4 h4 K f;go_simp;exact f _ _ (an.refl _) h4
    refine RegX.ca (φ:=BoM p.length q.length vb vh cv (fun i=>agn vs i+agn vt i) KM cd F) [6] BoM.stays (fun w l=>?_) ?_
    .
     rintro v4 ⟨af,ag,ao,k1,k2,k3,ce,rfl,h⟩ K f;have HH:=Hi h;clear h;go_simp;exact f _ _ (an.refl _) ⟨af,ag,ao,k1,k2,k3,rfl,fun M e2=>(HH.o M e2).2⟩
    refine RegX.ca (φ:=BoC cd F) [6] BoC.stays (fun w l=>?_) ?_
    .
     rintro v4 ⟨af,ag,ao,k1,k2,k3,ce,rfl,h⟩ K f;have HH:=Hi h;clear h;go_simp;exact f _ _ (an.refl _) ⟨ce,rfl,fun M e2=>(HH.o M e2).1⟩
    refine RegX.ca (φ:=NewM 47 3 Y.heap.size) [] NewM.staysX (fun w l=>?_) ?_
    .
     intro K f;go_simp;exact f _ _ (ApR.of_below (bR.alloc lZ _)) ⟨w.heap.size,_,rfl,l.size,SB.new w _ _,rfl⟩
    refine RegX.ca (φ:=NewS 41 #[.int .i64 0,.int .i64 0] Y.heap.size) [] (NewS.staysX (by decide) (by decide)) (fun w l=>?_) ?_
    .
     intro K f;go_simp;exact f _ _ (ApR.of_below (bR.alloc lZ _)) ⟨w.heap.size,rfl,l.size,SB.new w _ _⟩
    refine RegX.twoU an [8] (by simp only[List.nil_append,List.cons_append,List.length_append,List.length_cons,List.length_nil,Nat.reduceAdd]) (by rfl) (by simp only[List.getElem?_toArray,List.getElem?_cons_zero,List.getElem?_cons_succ];exact rfl) (by simp only[List.getElem?_toArray,List.getElem?_cons_zero,List.getElem?_cons_succ];exact rfl) (by rfl) (by kernel_rfl) (fun j hj=>?_) (fun u l=>?_)
    .
     obtain rfl:=List.mem_singleton.1 hj;refine⟨_,[6],(by simp only[List.getElem?_toArray,List.getElem?_cons_zero,List.getElem?_cons_succ];exact rfl),by kernel_rfl,fun w l=>?_⟩;simp only[Given,List.nil_append,List.cons_append,List.getD_cons_zero,List.getD_cons_succ,Qad,Act.put,List.setIfInBounds_toArray,List.set_cons_zero,List.set_cons_succ,Nat.reduceAdd,Nat.reduceBEq,cond_true,cond_false];rintro v4 ⟨af,ag,ao,k1,k2,k3,ce,rfl,h⟩;have HH:=Hi h;clear h;intro K f;go_simp;exact f _ ⟨ce,rfl,fun M e2=>(HH.o M e2).1⟩
    rw[show restOf 11 [8]= [0,1,2,3,4,5,6,7,9,10] from rfl];simp only[Given,List.nil_append,List.cons_append,List.getD_cons_zero,List.getD_cons_succ,Qad,Act.put,List.setIfInBounds_toArray,List.set_cons_zero,List.set_cons_succ,Nat.reduceAdd,Nat.reduceBEq,cond_true,cond_false];intro v2 _ v4 _ v5 _ v6 _ v7 h7 v9 h9 lk a5;obtain⟨af,ag,ao,k1,k2,k3,rfl,h7⟩:=h7;obtain⟨M3,D,rfl,g1,h9,jd⟩:=h9;obtain⟨I3,rfl,je,a5⟩:=a5;obtain⟨z0,z1,z2,rfl⟩:∃d0 d1 d2,D=#[d0,d1,d2]:=by
     match D,jd with
     |⟨[x,y,z]⟩,_=>exact⟨x,y,z,rfl⟩
    have y0:=h9.cell 0;have y1:=h9.cell 1;have y2:=h9.cell 2;simp only[List.getElem?_toArray,List.getElem?_cons_zero,List.getElem?_cons_succ] at y0 y1 y2;have f0:=h9.free 0;have f1:=h9.free 1;have f2:=h9.free 2;have cr:=((h9.set 0 (.slice af k1 k1)).set 1 (.slice ag k2 k2)).set 2 (.slice ao k3 k3);simp only[List.setIfInBounds_toArray,List.set_cons_zero,List.set_cons_succ] at cr;have bm:=(((Only.refl M3 u).setCell 0 (.slice af k1 k1)).setCell 1 (.slice ag k2 k2)).setCell 2 (.slice ao k3 k3);obtain⟨T1,g2⟩:=nm (((u.setCell ⟨M3,0,none⟩ (.slice af k1 k1)).setCell ⟨M3,1,none⟩ (.slice ag k2 k2)).setCell ⟨M3,2,none⟩ (.slice ao k3 k3));rw[g2] at cr bm;have eu:=a5.only bm (a5.unlike h9 (by decide));have jf:Bl Y T1:=Only.fresh (l.below lZ) bm g1
    have jg:O (ApR 36 47 Y.heap.size (ls.flatMap L3.cells) (lt.flatMap L3.cells) u T1):=Hi (ApR.of_only bm h9 cr rfl g1 (by decide));have H7:O (cd=0->F=0->MovedOK p.length q.length vb vh cv (fun i=>agn vs i+agn vt i) KM af ag k1 k2 T1):=Hi (fun M e2=>(h7 M e2).only bm h9 (by decide) (by decide));obtain⟨ll,H9,ap,jh,ji⟩:=Id g2 cr eu jf je;clear h7 h9 a5 cr eu bm jf g2 l jd an g1 je;intro K1 jj;go_simp;rw[ll.o];refine jj _ jg.o ?_;clear jj y0 y1 y2 f0 f1 f2;rintro v8 ⟨ce,rfl,jk⟩;have jl:=Hi jk;have y0:=ap.o.cell 0;have y1:=ap.o.cell 1;simp only[List.getElem?_toArray,List.getElem?_cons_zero,List.getElem?_cons_succ] at y0 y1;have f0:=ap.o.free 0;have f1:=ap.o.free 1;have A:=(ap.o.set 0 (.int .i64 ce)).set 1 (.int .i64 0)
    simp only[List.setIfInBounds_toArray,List.set_cons_zero,List.set_cons_succ] at A;have T:=((Only.refl I3 T1).setCell 0 (.int .i64 ce)).setCell 1 (.int .i64 0);obtain⟨T2,g3⟩:=nm ((T1.setCell ⟨I3,0,none⟩ (.int .i64 ce)).setCell ⟨I3,1,none⟩ (.int .i64 0));rw[g3] at A T;have bn:=Only.fresh jh.o T ji.o;obtain⟨eg,g4,jm,aq⟩:=Ic ((am.o.below bn).addX (H9.o.only T (H9.o.unlike ap.o (by decide))) (by decide)) A (cm.o.below bn cm.o.lt) (cn.o.below bn cn.o.lt);have jn:O (cd=0->F=0->MovedOK p.length q.length vb vh cv (fun i=>agn vs i+agn vt i) KM af ag k1 k2 T2):=Hi (fun M e2=>(H7.o M e2).only T ap.o (by decide) (by decide));have ev:O (cd=0->MovedOK p.length q.length vb vh cv (agn vs) KM aj ak m1 m2 T2):=Hi (fun M=>by
     rcases cp.o with ⟨h,_⟩|⟨_,h⟩
     . exact absurd M h
     . exact h.below bn)
    have ew:O (F=0->MovedOK p.length q.length vb vh cv (agn vt) KM bi bj m4 m5 T2):=Hi (fun M=>by
     rcases cq.o with ⟨h,_⟩|⟨_,h⟩
     . exact absurd M h
     . exact h.below bn)
    have lm:=Hi g3;clear jk A T bn g3 H7 H9 ap jh ji jg cp cq cm cn es et;intro K2 jo;go_simp;rw[lm.o];refine jo _ _ ?_;clear jo y0 y1 f0 f1;obtain⟨y0,-⟩:=zc jm.o;obtain⟨y1,-⟩:=zc aq.o;by_cases jp:cd=0
    .
     subst jp;by_cases ex:F=0
     .
      subst ex;obtain rfl:=jl.o rfl rfl;obtain⟨M,e2,gx,jq,sx,mf,mx,cs,cu,jr,g5,jt,g6,ju,ar,ey⟩:=ev.o rfl;subst M e2 cs cu;obtain⟨M,e2,gy,ln,sy,mg,my,cs,cu,jv,g7,jw,_,_,cw,ez⟩:=ew.o rfl;subst M e2 cs cu;obtain⟨M,e2,gz,lo,sz,mh,mz,cs,cu,jx,g8,jy,_,_,e3,e4⟩:=jn.o rfl rfl;subst M e2 cs cu;obtain⟨KX,jz⟩:∃KX,KX=492196553:=⟨_,rfl⟩;have au:=Hi jz;have c0:I<=20:=by have:=ae.o;omega
      have aq:=Hi (show (∀i,i<q.length->Fits (tM p.length q.length vb vh cv mx i) KM)/\Fits (dot q.length (tM p.length q.length vb vh cv mx) (fun i=>tM p.length q.length vb vh cv mx i / cv i)*(1 / 2)) KM by
       obtain⟨P,b,Q,c,lp,he⟩:=ai.o.over b8.o.1 HV.o gh.o (by have:=ed.o;omega)
       exact Qpr (E:=8389708) (by have:=U.o;omega) lp ai.o.fv he ar ai.o.pos)
      have j0:O (∀j,j<I->mz j=mx j+my j):=Hi (fun j hj=>((e3.2 _ (ar.add cw).1 j (by have:=ae.o;omega)).symm));have j1:O (dot I (agn vs) my=dot I (agn vt) mx):=Hi (by
       rw[ae.o]
       exact Giv.betti ar.1 cw.1)
      have j2:O (dot I (agn vs) mx= -(dot q.length (tM p.length q.length vb vh cv mx) (fun i=>tM p.length q.length vb vh cv mx i / cv i))):=Hi (by
       rw[ae.o]
       exact Giv.clapeyron ar.1 ai.o.pos)
      obtain⟨Z,hZ⟩:=nm T2.drew;have a6:Bl T2 Z:=by rw[<-hZ];exact(Below.refl _ _).drew
      have ab:=Hi (eg.o.below a6);have av:O (SB Z M1 47 #[.slice (some ⟨gx,0,none⟩) p.length p.length,.slice (some ⟨jq,0,none⟩) q.length q.length,.slice b9 m3 m3]):=Hi (ab.o.xs (M1,47,_) (by simp)).1;have c5:O (SB Z M2 47 #[.slice (some ⟨gy,0,none⟩) p.length p.length,.slice (some ⟨ln,0,none⟩) q.length q.length,.slice ef m6 m6]):=Hi (ab.o.xs (M2,47,_) (by simp)).1;have c6:O (SB Z M3 47 #[.slice (some ⟨gz,0,none⟩) p.length p.length,.slice (some ⟨lo,0,none⟩) q.length q.length,.slice ao k3 k3]):=Hi (ab.o.xs (M3,47,_) (by simp)).1;obtain⟨c7,c8,c9,da⟩:=Ic (av.o.cell 0) (c5.o.cell 0) (c6.o.cell 0) (av.o.cell 1);simp only[List.getElem?_toArray,List.getElem?_cons_zero,List.getElem?_cons_succ] at c7 c8 c9 da;have g9:=Hi (g4.o.below a6 g4.o.lt)
      obtain⟨bo,bp,br,eh,lq⟩:=Id (And.intro (g5.below a6 g5.lt) (And.intro jr (And.intro jt (show ∀r,r<I->Fits (mx r) KM from fun r hr=>ey r (by have:=ae.o;omega))))) (And.intro (g7.below a6 g7.lt) (And.intro jv (And.intro jw (show ∀r,r<I->Fits (my r) KM from fun r hr=>ez r (by have:=ae.o;omega))))) (And.intro (g8.below a6 g8.lt) (And.intro jx (And.intro jy (show ∀r,r<I->Fits (mz r) KM from fun r hr=>e4 r (by have:=ae.o;omega))))) (And.intro (g6.below a6 g6.lt) ju) hZ;clear jz jr g5 jt g6 ju ar ey jv g7 jw cw ez jx g8 jy e3 e4 hZ a6 ev ew jn jl g4 eg am;go_wp2_with fail;refine RegG.bg 11 (fun j=>some (bif j == 9 then 15 else bif j == 10 then 16 else 82+j)) ?_;rw[lq.o];clear y0 y1;refine RegG.pu (c:=?_) [] (fun w l=>?_) ?_;rotate_left
      .
       intro K f;go_simp;exact f
      refine RegG.pu (c:=?_) [0] (fun w l=>?_) ?_;rotate_left
      .
       intro K f;have d0:=ce l av.o.lt c7.o;go_simp;exact f
      refine RegG.ca (φ:=MtF I KX Z.heap.size mx) [1] (MtF.stays _ _ _ _) (fun w l=>?_) ?_
      .
       intro K f;go_simp;exact Makes.use (Qfn (HG.o.below (ab.o.base.trans (l.mono ab.o.base.size))) (bo.o.1.below l bo.o.1.lt) bo.o.2.1 nj ae.o.symm bo.o.2.2.1 bo.o.2.2.2 U.o au.o l.size) f
      refine RegG.pu (c:=?_) [] (fun w l=>?_) ?_;rotate_left
      .
       intro K f;go_simp;exact f
      refine RegG.pu (c:=?_) [3] (fun w l=>?_) ?_;rotate_left
      .
       intro K f;have d0:=ce l c5.o.lt c8.o;go_simp;exact f
      refine RegG.ca (φ:=MtF I KX Z.heap.size my) [4] (MtF.stays _ _ _ _) (fun w l=>?_) ?_
      .
       intro K f;go_simp;exact Makes.use (Qfn (HG.o.below (ab.o.base.trans (l.mono ab.o.base.size))) (bp.o.1.below l bp.o.1.lt) bp.o.2.1 nj ae.o.symm bp.o.2.2.1 bp.o.2.2.2 U.o au.o l.size) f
      refine RegG.pu (c:=?_) [] (fun w l=>?_) ?_;rotate_left
      .
       intro K f;go_simp;exact f
      refine RegG.pu (c:=?_) [6] (fun w l=>?_) ?_;rotate_left
      .
       intro K f;have d0:=ce l c6.o.lt c9.o;go_simp;exact f
      refine RegG.ca (φ:=MtF I KX Z.heap.size mz) [7] (MtF.stays _ _ _ _) (fun w l=>?_) ?_
      .
       intro K f;go_simp;exact Makes.use (Qfn (HG.o.below (ab.o.base.trans (l.mono ab.o.base.size))) (br.o.1.below l br.o.1.lt) br.o.2.1 nj ae.o.symm br.o.2.2.1 br.o.2.2.2 U.o au.o l.size) f
      refine RegG.ca (φ:=MtF I KX Z.heap.size mx) [2] (MtF.stays _ _ _ _) (fun w l=>?_) ?_
      .
       intro v1 h1 K f;go_simp;exact f _ _ bR h1
      refine RegG.ca (φ:=MtF I KX Z.heap.size my) [5] (MtF.stays _ _ _ _) (fun w l=>?_) ?_
      .
       intro v1 h1 K f;go_simp;exact f _ _ bR h1
      refine RegG.last (by simp only[List.nil_append,List.cons_append,List.length_append,List.length_cons,List.length_nil,Nat.reduceAdd]) (by rfl) (by rfl) (by kernel_rfl) (fun u l=>?_);simp only[FinG,List.nil_append,List.cons_append,Qad,Act.put,List.setIfInBounds_toArray,List.set_cons_zero,List.set_cons_succ,Nat.reduceAdd,Nat.reduceBEq,cond_true,cond_false];intro v2 _ v5 _ v8 h8 v9 h9 lk a5 K f;obtain⟨tz,j3,db,qz⟩:=h8;obtain⟨tx,j4,ha,qx⟩:=h9;obtain⟨ty,j5,hh,qy⟩:=a5;obtain⟨az,cz,e8,j6⟩:=j3.row;obtain⟨ax,cx,e9,j7⟩:=j4.row;obtain⟨ay,cy,j8,j9⟩:=j5.row;rw[db] at e8;rw[ha] at e9;rw[hh] at j8;subst e8 e9 j8;obtain⟨dc,hn,hp,hw,h0,ka⟩:=Ie (ab.o.below l) (And.intro j6 (And.intro db qz)) (And.intro j7 (And.intro ha qx)) (And.intro j9 (And.intro hh qy)) (g9.o.below l g9.o.lt) (eh.o.1.below l eh.o.1.lt)
      have t1:u.cell? ⟨M1,1,none⟩=some (.slice (some ⟨jq,0,none⟩) q.length q.length):=ce l av.o.lt da.o;clear j3 db qz j4 ha qx j5 hh qy j6 j7 j9 l;go_simp;refine f _ _ ?_;clear f;have kb:=Hi (Qpo ai.o be.o ec.o (HG.o.below dc.o.base) (dc.o.frow HF.o.j) (ct:=q.length) ka.o eh.o.2 aq.o.1 U.o);have m:=dc.o.box;have x0:u.cell? ⟨C,0,none⟩=some (.slice a1 p.length c1):=by
       have h:=m.cell 0
       simpa using h
      have x1:u.cell? ⟨C,1,none⟩=some (.slice b2 q.length d2):=by
       have h:=m.cell 1
       simpa using h
      have x2:u.cell? ⟨C,2,none⟩=some (.slice b3 R.length d3):=by
       have h:=m.cell 2
       simpa using h
      clear m;go_wp2_with fail;refine Makes.use kb.o ?_;rintro _ dd de ⟨s,rfl,kc⟩;clear x0 x1 x2 t1 kb;have kd:=Hi kc;obtain⟨W,hW⟩:=nm (dd.alloc (.cells #[.int .i64 0,.int .i64 0] 41));obtain⟨J,hJ⟩:=nm dd.heap.size;have e5:Bl dd W:=by rw[<-hW];exact(Below.refl _ _).alloc lZ _
      have bt:=de.trans (e5.mono de.size);obtain⟨lr,ke,L,a7⟩:=Ic (dc.o.below bt) (And.intro (hn.o.1.below bt) hn.o.2) (And.intro (hp.o.1.below bt) hp.o.2) (And.intro (hw.o.1.below bt) hw.o.2);have kf:SB W J 41 #[.int .i64 0,.int .i64 0]:=by rw[<-hW,<-hJ];exact SB.new dd _ _
      obtain⟨y0,-⟩:=zc (h0.o.below bt h0.o.lt);obtain⟨y1,-⟩:=zc kf;obtain⟨HW,HJ⟩:=Ia hW hJ;rw[<-hW] at y0 y1;rw[<-hJ] at y1;clear kc hW hJ e5 bt kf de dc hn hp hw h0 ka bo bp br eh ab g9 av c5 c6 c7 c8 c9 da;go_wp2_with fail;rw[HW.o];clear y0 y1;go_loopw [130] (fun iv wr=>∃k:Nat,k<=I/\iv=.int .i64 k/\Below W.heap.size W wr) (fun iv _=>I - (intOf iv).toNat)
      case atStart=>exact⟨0,Nat.zero_le _,rfl,Below.refl _ _⟩
      case round=>
       obtain⟨k,hk,rfl,h5⟩:=hrel;obtain⟨df,h6⟩:=Ia h5 (lr.o.below h5);clear h5;by_cases ei:k<I
       .
        obtain⟨mi,ia,kg,kh⟩:=ke.o.2.2 k ei;obtain⟨tx1,ib,ki,kj⟩:=L.o.2.2 k ei;obtain⟨mj,ic,kk,kl⟩:=a7.o.2.2 k ei;obtain⟨Yr,ie⟩:=nm wr.drew;have km:Bl wr Yr:=by rw[<-ie];exact(Below.refl _ _).drew
        have dg:=df.o.trans (km.mono df.o.size);have rz:=ke.o.1.below dg;have rx:=L.o.1.below dg;have ry:=a7.o.1.below dg;obtain⟨bz,oz,lu,db,dz⟩:=rz.at ia;obtain⟨bx,ox,lw,kn,dx⟩:=rx.at ib;obtain⟨mk,oy,lx,ko,dy⟩:=ry.at ic;obtain⟨ly,lz,l0,l1,l2,l3⟩:=Ie (rz.rf (mO ia) kh kg) (rx.rf (mO ib) kj ki) (ry.rf (mO ic) kl kk) dz dx dy;have l4:O (cmpQ (mz k) (mx k+my k)=0):=Hi (by rw[j0.o k ei];exact Qfp _);obtain⟨kp,l5⟩:=Ia dg ie;have e6:O (KX+KX<274877906000/\KX+(KX+KX+1)<274877906000):=Hi (by have:=au.o;omega);have q1:((k:Int)<(I:Int)):=by omega
        subst lu lw lx;clear ia kg kh ib ki kj ic kk kl ie km dg rz rx ry dz dx dy;go_wp2_with fail;refine RegG.bg 14 (fun j=>some (133+j)) ?_;rw[l5.o];refine RegG.pu (c:=?_) [] (fun w l=>?_) ?_;rotate_left
        .
         intro K f;go_simp;exact f
        refine RegG.pu (c:=?_) [] (fun w l=>?_) ?_;rotate_left
        .
         intro K f;go_simp;exact f
        refine RegG.pu (c:=?_) [0,1] (fun w l=>?_) ?_;rotate_left
        .
         intro K f;go_simp;exact f
        refine RegG.pu (c:=?_) [2] (fun w l=>?_) ?_;rotate_left
        .
         intro K f;have d0:=ce l db l1.o;go_simp;exact f
        refine RegG.pu (c:=?_) [] (fun w l=>?_) ?_;rotate_left
        .
         intro K f;go_simp;exact f
        refine RegG.pu (c:=?_) [] (fun w l=>?_) ?_;rotate_left
        .
         intro K f;go_simp;exact f
        refine RegG.pu (c:=?_) [4,5] (fun w l=>?_) ?_;rotate_left
        .
         intro K f;go_simp;exact f
        refine RegG.pu (c:=?_) [6] (fun w l=>?_) ?_;rotate_left
        .
         intro K f;have d0:=ce l kn l2.o;go_simp;exact f
        refine RegG.pu (c:=?_) [] (fun w l=>?_) ?_;rotate_left
        .
         intro K f;go_simp;exact f
        refine RegG.pu (c:=?_) [] (fun w l=>?_) ?_;rotate_left
        .
         intro K f;go_simp;exact f
        refine RegG.pu (c:=?_) [8,9] (fun w l=>?_) ?_;rotate_left
        .
         intro K f;go_simp;exact f
        refine RegG.pu (c:=?_) [10] (fun w l=>?_) ?_;rotate_left
        .
         intro K f;have d0:=ce l ko l3.o;go_simp;exact f
        refine RegG.ca (φ:=RF (mx k+my k) (KX+KX+1)) [7,11] (RF.stays _ _) (fun w l=>?_) ?_
        .
         intro K f;go_simp;exact Makes.use (RF.add (lz.o.below l) (l0.o.below l) e6.o.1) f
        refine RegG.ca (φ:=Is (.int .i64 (cmpQ (mz k) (mx k+my k)))) [3,12] (Is.stays _) (fun w l=>?_) ?_
        .
         intro v1 h1;intro K f;go_simp;exact Makes.use (RF.cmp (ly.o.below l) h1 e6.o.2) f
        refine RegG.last (by simp only[List.nil_append,List.cons_append,List.length_append,List.length_cons,List.length_nil,Nat.reduceAdd]) (by rfl) (by rfl) (by kernel_rfl) (fun u2 l=>?_);simp only[FinG,List.nil_append,List.cons_append,Qad,Act.put,List.setIfInBounds_toArray,List.set_cons_zero,List.set_cons_succ,Nat.reduceAdd,Nat.reduceBEq,cond_true,cond_false];intro ml _ K f;have l6:=Hi (kp.o.trans (l.mono kp.o.size));clear l;rw[l4.o];go_simp;refine f _ _ ?_;clear f;go_wp2;go_roundw
        case rel=>exact⟨k+1,by omega,by go_num,l6.o⟩
        case measure=>simp[intOf];omega
       .
        obtain rfl:I=k:=by omega
        have ig:=Hi (h6.o.ps (gP,tp) (by simp)).row;have e7:=Hi (h6.o.ps (gQ,tq) (by simp)).row;obtain⟨KD,ej⟩:∃KD,KD=20*(83886121+KX+2)+1:=⟨_,rfl⟩;have kq:O (KD+KD<274877906000/\KD+(2+KM)<274877906000):=Hi (by have:=au.o;have:=U.o;omega);have ek:=Hi (h6.o.base);have a9:kL 20<=83886121:=by decide
        have kr:=Hi (fun u (hu:Bl wr u)=>Qfo (w:=u) (ca:=I) (cb:=cy) (ig.o.below hu) ((a7.o.1.below df.o).below hu) a0.o.1 a7.o.2.1 c0 (K1:=83886121) (K2:=KX) (fun t ht=>by
         obtain⟨i,hi⟩:=List.getElem?_of_mem ht
         exact Nat.le_trans (b6.o i t hi).2 a9) (Qft a7.o.2.1 a7.o.2.2) ej (by have:=au.o;omega))
        have ks:=Hi (fun u (hu:Bl wr u)=>Qfo (w:=u) (ca:=I) (cb:=cx) (e7.o.below hu) ((L.o.1.below df.o).below hu) a0.o.2 L.o.2.1 c0 (K1:=83886121) (K2:=KX) (fun t ht=>by
         obtain⟨i,hi⟩:=List.getElem?_of_mem ht
         exact Nat.le_trans (gj.o i t hi).2 a9) (Qft L.o.2.1 L.o.2.2) ej (by have:=au.o;omega))
        have kt:=Hi (fun u (hu:Bl wr u)=>Qfo (w:=u) (ca:=I) (cb:=cx) (ig.o.below hu) ((L.o.1.below df.o).below hu) a0.o.1 L.o.2.1 c0 (K1:=83886121) (K2:=KX) (fun t ht=>by
         obtain⟨i,hi⟩:=List.getElem?_of_mem ht
         exact Nat.le_trans (b6.o i t hi).2 a9) (Qft L.o.2.1 L.o.2.2) ej (by have:=au.o;omega))
        obtain⟨D,hD⟩:=nm (dot I (qv tp) (qv ty));obtain⟨E3,ih⟩:=nm (dot I (qv tp) (qv tx));obtain⟨E2,ii⟩:=nm (dot q.length (tM p.length q.length vb vh cv mx) (fun i=>tM p.length q.length vb vh cv mx i / cv i)*(1 / 2));have ku:dot I (qv tq) (qv tx)=D:=by
         rw[<-hD,Qfs b6.o a0.o.1 a7.o.2.2,Qfs gj.o a0.o.2 L.o.2.2,j1.o]
        have fa:E3=2*E2:=by
         rw[<-ih,<-ii,Qfs b6.o a0.o.1 L.o.2.2,j2.o];grind
        obtain⟨ij,ik⟩:=Ia kd.o aq.o.2;rw[ii] at ij ik;simp only[hD,ku,ih] at kr ks kt;have l7:=Hi (Qfp D);have l8:O (cmpQ E3 (2*E2)=0):=Hi (by rw[fa];exact Qfp _);have l9:O (s.size<=1073741824):=Hi (by have:=ij.o.lenG ik.o;have:=U.o;omega);clear ej hD ih ii ku fa ig e7 a9 kd aq j1 j2 j0 b6 gj a0;go_wp2_with fail;refine Makes.use (kr.o wr bR) ?_;intro mm ma fb fc;obtain⟨kv,dh⟩:=Ia fc fb;obtain⟨mn,rfl,_⟩:=fc;clear fb;go_wp2_with fail;refine Makes.use (ks.o ma dh.o) ?_;intro mo mp di fd;obtain⟨kw,il,fe⟩:=Ib fd (kv.o.below di) (dh.o.trans (di.mono dh.o.size));obtain⟨mq,rfl,_⟩:=fd;clear di;go_wp2_with fail;refine Makes.use (RF.cmp il.o kw.o kq.o.1) ?_;rintro _ mb ff rfl;have dj:=Hi (fe.o.trans (ff.mono fe.o.size))
        rw[l7.o];clear ff;go_wp2_with fail;refine Makes.use (kt.o mb dj.o) ?_;intro mr mc fg fh;obtain⟨kx,fi⟩:=Ia fh (dj.o.trans (fg.mono dj.o.size));obtain⟨ms,rfl,_⟩:=fh;clear fg;go_wp2_with fail;refine Makes.use (Qpp mc) ?_;intro mu mv dk fj;obtain⟨ky,im,dm⟩:=Ib fj (kx.o.below dk) (fi.o.trans (dk.mono fi.o.size));obtain⟨mw,rfl,_⟩:=fj;clear dk;go_wp2_with fail;refine Makes.use (RF.of (HG.o.below (ek.o.trans (dm.o.mono ek.o.size))) ij.o.back l9.o ik.o (by have:=U.o;omega)) ?_;intro m0 m7 ba fk;obtain⟨kz,io,ip,fl⟩:=Ic fk (ky.o.below ba) (im.o.below ba) (dm.o.trans (ba.mono dm.o.size));obtain⟨m8,rfl,_⟩:=fk;clear ba;go_wp2_with fail;refine Makes.use (RF.mul io.o kz.o (by have:=U.o;omega)) ?_
        intro m9 na dn fm;obtain⟨k0,iq,fn⟩:=Ib fm (ip.o.below dn) (fl.o.trans (dn.mono fl.o.size));obtain⟨nc,rfl,_⟩:=fm;clear dn;go_wp2_with fail;refine Makes.use (RF.cmp iq.o k0.o kq.o.2) ?_;rintro _ nd fo rfl;have k4:=Hi (fn.o.trans (fo.mono fn.o.size));rw[l8.o];clear fo;go_wp2;go_ret;exact⟨rfl,ek.o.trans (k4.o.mono ek.o.size)⟩
     .
      have M:(F != 0)=true:=by simpa using ex
      go_wp2;go_ret;exact⟨rfl,eg.o.base⟩
    .
     have e0:(cd != 0)=true:=by simpa using jp
     go_wp2;go_ret;exact⟨rfl,eg.o.base⟩
  .
   have M:(c' != 0)=true:=by simpa using hd
   go_wp2;rw[b4.o];go_ret;exact⟨rfl,b1.o.base⟩
 .
  have e0:(c != 0)=true:=by simpa using hc
  go_wp2;rw[b4.o];go_ret;exact⟨rfl,b1.o.base⟩
section
open Go.ChangeShapes Go.WideShapes Go.ChangeAt Go.RowKit
theorem Qix{H:Type}:∀a:List B6,bW a<=Rows.uptoBulkAll (a.map (barD (H:=H)))
 | []=>by simp[bW,Rows.uptoBulkAll]
 |s :: l=>by
  have b:=Qix (H:=H) l;have c:=(Qgu (H:=H) s).2;simp only[bW,List.map_cons,Rows.uptoBulkAll];omega
namespace giveBetti
theorem Qpu(H:Type)(enc:TypeId × Value->H)(W:Vz)(k:Nat)(a:Vw)(s C:List (DataW H))(f:List MemPlace)
 (c:∀(j:Nat) t v,Tryz.f4.params[j]?=some t->a[j]?=some v->Value.okWide prog W .any k t v)
 (hW:DataW.Whole enc prog Tryz.f4.params.toList Rows.giveBettiSpec.vars false W a.toList s C f) (hk:Rows.uptoSmall H (s++C)=true) (hG:Glob W):
 Calls prog 4 a W fun e u=>∃v,e=.returned v/\Rows.giveBettiSpec.post enc prog Tryz.f4 false true false false W a v u:=by
 have m:=hW;obtain⟨p,q,n,hV,rfl,L,M⟩:=hW;have D:DataW.TrodAll enc prog W 0 (fun _=>true) true Tryz.f4.params.toList a.toList s p:=n;rw[Tryz.params4] at D c;obtain⟨N,O,P,d0,d1,d2,w,y,z,rfl,rfl,rfl,E,F,G⟩:=trodAll_three D;obtain⟨rfl,rfl⟩:=trodVars_none hV;clear n;obtain⟨cs,rfl,Q⟩:=okWide_struct underlying26 (c 0 26 N rfl rfl);obtain⟨R,ll,S,rfl⟩:=okWide_slice underlying27 (c 1 27 O rfl rfl);obtain⟨T,lm,U,rfl⟩:=okWide_slice underlying27 (c 2 27 P rfl rfl);unfold Rows.uptoSmall at hk;have A:=of_decide_eq_true hk;rw[List.append_nil] at A;obtain⟨V,X,Y,c1,c2,c3,I,J,Z,rfl,hf,hz,_,n2,n3,aa⟩:=Qug (Nat.le_trans (Qk5 (by simp)) A) E;obtain⟨o,rfl,hl,ab⟩:=Qle F;obtain⟨r,rfl,hm,ad⟩:=Qle G;have K:Rows.uptoBulk d0+(Rows.uptoBulk d1+Rows.uptoBulk d2)<=1048576:=by
  have:=A;simp only[Rows.uptoBulkAll] at this;omega
 have hj:=Qld (H:=H) I;have ae:=Qix (H:=H) J;have hw:=Qgx (H:=H) o;have af:=Qgx (H:=H) r;have hn:=Qc4 (H:=H) loadD (fun e=>(Qgw e).1) o;have ag:=Qc4 (H:=H) loadD (fun e=>(Qgw e).1) r;obtain⟨vs,hv⟩:=LVal.ex o (fun l h=>by have:=Qez h;omega);obtain⟨vt,B⟩:=LVal.ex r (fun l h=>by have:=Qez h;omega);have g:∀x∈ w++y++z++ [],x.block<W.heap.size:=fun x i=>m.lt x i
 refine(Qpt V X Y R T c1 c2 c3 S U I J Z o r vs vt W hG hf hz hl hv hm B n2 n3 (by omega) (by omega) (by omega)).mono ?_;rintro e u ⟨rfl,d⟩;refine⟨_,rfl,[d0,d1,d2],[],w++y++z++ [],[],w++(y++(z++ [])),[],m,trodAll_cons_mk (shut_bool underlying4 _) trodAll_mk0,?_,rfl,d.frame _,fun h=>by cases h⟩
 show DataW.TrodAll enc prog u 0 (fun b=>decide (b<W.heap.size)) true Tryz.f4.params.toList _ [d0,d1,d2] _
 rw[Tryz.params4];exact trodAll_cons_mk (Below.trod Qgs Que Quf E d (fun x i=>g x (by simp[i])))
  (trodAll_cons_mk (Below.trod Qgs Qlb Qlc F d (fun x i=>g x (by simp[i]))) (trodAll_cons_mk (Below.trod Qgs Qlb Qlc G d (fun x i=>g x (by simp[i]))) trodAll_mk0))
theorem glob{W:Vz}(b:laidMetH prog Rows.giveBettiUptoRow.laid W)(a:W.ShapedOpen prog):Glob W:=
 ⟨Qt9 a,fun _=>Qt8 (Qk6 (Qk6 (show laidMet prog Rows.giveBettiUptoRow.laid W from b)))⟩
end giveBetti
def tabledG(w:Vz):World:=
 put 10 Rows.laid_math_bits_deBruijn32tab (put 11 Rows.laid_math_bits_deBruijn64tab (put 9 Rows.laid_internal_strconv_uint64pow10
  (put 8 Rows.laid_unicode_utf8_acceptRanges (put 7 Rows.laid_unicode_utf8_first w))))
end
namespace giveBetti
open Go.ChangeShapes Go.WideShapes Go.ChangeAt Go.RowKit
set_option linter.unusedVariables false
set_option linter.unusedSimpArgs false
theorem Qpv(a:Os):laidMet prog Rows.giveBettiUptoRow.laid ((tabledG (World.holding prog a ⟨#[],#[],[]⟩)).forCall (fun _ _=>0) ⟨#[],#[.agg #[.slice none 0 0,.slice none 0 0,.slice none 0 0],.slice none 0 0,.slice none 0 0],[]⟩).memory:=
 laidMet_of_run' 8 (by kernel_rfl) (by kernel_rfl)
theorem reads(a:Os){H:Type}(enc:TypeId × Value->H):∃places,DataW.whole enc prog ((tabledG (World.holding prog a ⟨#[],#[],[]⟩)).forCall (fun _ _=>0) ⟨#[],#[.agg #[.slice none 0 0,.slice none 0 0,.slice none 0 0],.slice none 0 0,.slice none 0 0],[]⟩).memory Tryz.f4.params.toList Rows.giveBettiSpec.vars false #[Value.agg #[.slice none 0 0,.slice none 0 0,.slice none 0 0],.slice none 0 0,.slice none 0 0].toList 8=some ([.agg [.nil,.nil,.nil],.nil,.nil],[],places):=
 ⟨[],by kernel_rfl⟩
theorem Qpw(d:Os)(a:d.Started)(H:Type)(enc:TypeId × Value->H)(F:Stop.Interp):
 ReturnsInHanded {} Tryz.checked d 4 .any ((Rows.OpenSpec.upto Rows.giveBettiSpec).preRow enc prog Tryz.f4 Rows.giveBettiUptoRow.domain false Rows.giveBettiUptoRow.laid) (((Rows.OpenSpec.upto Rows.giveBettiSpec).at F).post enc prog Tryz.f4 false true false false):=by
 obtain⟨places,i⟩:=reads d enc;refine returnsInHanded_of_row (C:=Tryz.checked) (s:=Rows.OpenSpec.upto Rows.giveBettiSpec) own a (by kernel_rfl) func4
  (witness_row_at (enc:=enc) (C:=Tryz.checked) false (tabledG (World.holding prog d ⟨#[],#[],[]⟩)) #[.agg #[.slice none 0 0,.slice none 0 0,.slice none 0 0],.slice none 0 0,.slice none 0 0] rfl (by kernel_rfl) (by kernel_rfl) (by kernel_rfl)
    (OpenSpec.preRow_of_cond 8 i (by kernel_rfl) (fun k hk=>by cases hk;kernel_rfl) (by kernel_rfl) (Qpv d))) ?_
 intro W e f j l b g hW _ c _ m h _;exact Qpu H enc W e f j l b g hW (c _ rfl) (glob m h)
end giveBetti
namespace giveBetti
open Go.ChangeShapes Go.WideShapes Go.ChangeAt Go.RowKit
set_option linter.unusedVariables false
set_option linter.unusedSimpArgs false
theorem closed:joinedFacts prog 4 Tryz.f4 (Rows.OpenSpec.upto Rows.giveBettiSpec).bare Rows.giveBettiUptoRow=true:=by
 unfold joinedFacts;simp only[Bool.and_eq_true]
 repeat' with_reducible apply And.intro
 all_goals (as_aux_lemma=>kernel_rfl)
theorem named:prog.funcNamed Rows.giveBettiUptoRow.func=some 4:=by kernel_rfl
theorem said:Rows.GiveBettiUptoSaid:=
 OpenClaim.holds_of_cond 4 Tryz.f4 rfl rfl rfl rfl rfl rfl rfl ⟨rfl,rfl,rfl,rfl,rfl⟩ rfl rfl rfl rfl rfl named func4 closed
  (of_decide_eq_true (by kernel_rfl)) (by unfold Func.isWrapper;first|(rw [if_pos (by decide +kernel)];kernel_rfl)|(rw [if_neg (by decide +kernel)];exact⟨rfl,rfl⟩))
  (fun b a H enc _ F=>by rw[OpenClaim.pre_eq_preRow];exact Qpw b a H enc F)
theorem plain(f:FuncId)(a:Func)(d:Tryz.pinned.checked.prog.funcNamed "rafter/rafterlaw.GiveBetti" =some f)(b:Tryz.pinned.checked.prog.funcs[f]?=some a):
 false=Tryz.pinned.checked.prog.looks []/\∀(j:Nat) t,a.params[j]?=some t->Tryz.pinned.checked.prog.wantsStandIn t=false:=by
 obtain rfl:f=4:=Option.some.inj ((show prog.funcNamed "rafter/rafterlaw.GiveBetti" =some 4 by kernel_rfl).symm.trans d) |>.symm;obtain rfl:a=Tryz.f4:=(Option.some.inj (func4.symm.trans b)).symm;refine⟨by kernel_rfl,fun j t c=>?_⟩;rw[Tryz.params4] at c;have:=Array.mem_of_getElem? c;simp only[List.mem_toArray,List.mem_cons,List.not_mem_nil,or_false] at this;rcases this with rfl|rfl|rfl
 . exact(show prog.wantsStandIn 26=false by kernel_rfl)
 . exact(show prog.wantsStandIn 27=false by kernel_rfl)
 . exact(show prog.wantsStandIn 27=false by kernel_rfl)
end giveBetti
theorem giveBetti_upto:Rows.GiveBettiUptoCardSaid:=
 Claim7.holds_tied_plain_at .later [] _ _ _ _ giveBetti.said (fun _ h=>by cases h) (by kernel_rfl) (fun _ h=>by cases h) giveBettiUpto_row_tie rfl ⟨rfl,rfl⟩ (by kernel_rfl) rfl giveBetti.plain (by kernel_rfl)
end Go.Proofs.YtkkadnoecklepaaGreatDoor
