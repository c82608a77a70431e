/- For every world that holds the tables, and every frame and list of loads and texts of bulk at most 1048576: GiveLeast answers true: the statement and its card. -/
import Derived.Test.YtkkadnoecklepaaGreatDoorL10GqC
import Derived.Test.YtkkadnoecklepaaGreatDoorCards
import Derived.Test.YtkkadnoecklepaaGreatDoorTie
import Derived.Deep.DeepHandedRow
namespace Go.Proofs.YtkkadnoecklepaaGreatDoor
open Go.RowKit
open Go.Proofs.Tryz
set_option linter.unusedSimpArgs false
set_option linter.unusedVariables false
set_option maxHeartbeats 8000000
set_option maxRecDepth 1000000
theorem Qi5{d e f:Nat}{w:Vz}(g:Glob w)(j:FrRow w (some ⟨d,0,none⟩) (some ⟨e,0,none⟩) (some ⟨f,0,none⟩) 3 2 4 cornerJ gvB gvH):GivV w (some ⟨d,0,none⟩) (some ⟨e,0,none⟩) (some ⟨f,0,none⟩) 3 2 4 6 cornerJ gvB gvH gvVB gvVH (fun _=>1) (fun _=>0) (fun _=>0):=by
 refine⟨g,j,Qqh,fun i b c=>?_,fun i h a=>?_,rfl⟩
 .
  match i,c with
  |0,c=>cases c;exact⟨q1_of,qe_of,by decide,by decide⟩
  |1,c=>cases c;exact⟨q1_of,qe_of,by decide,by decide⟩
  |n+2,c=>cases c
 .
  match i,a with
  |0,a=>cases a;exact⟨qe_of,by decide⟩
  |1,a=>cases a;exact⟨qe_of,by decide⟩
  |2,a=>cases a;exact⟨qe_of,by decide⟩
  |3,a=>cases a;exact⟨qe_of,by decide⟩
  |n+4,a=>cases a
def GvF:Fact:=fun v w=>∃(g1 g2 g3:Nat) (C:Vw),v=.tuple #[.agg #[.slice (some ⟨g1,0,none⟩) 3 3,.slice (some ⟨g2,0,none⟩) 2 2,.slice (some ⟨g3,0,none⟩) 4 4],.agg #[.int .i64 0,.int .i64 0]]/\
     SB w g1 34 C/\C[0]?=some (.string ⟨#[49]⟩)/\C[1]?=some (.string ⟨#[50]⟩)/\SB w g2 32 (textsV [⟨#[45,49]⟩,⟨#[45,50]⟩]).toArray
theorem GvF.staysX{B:Nat}{xs b:Vv}:StaysX (ApR 84 47 B xs b) GvF:=fun _ _ _ a ⟨c,d,f,C,e,g,h,i,j⟩=>⟨c,d,f,C,e,a.sb g (by decide) (by decide),h,i,a.sb j (by decide) (by decide)⟩
def GvM:Fact:=fun v w=>∃(g1 g2 g3:Nat) (C:Vw),v=.agg #[.slice (some ⟨g1,0,none⟩) 3 3,.slice (some ⟨g2,0,none⟩) 2 2,.slice (some ⟨g3,0,none⟩) 4 4]/\
     SB w g1 34 C/\C[0]?=some (.string ⟨#[49]⟩)/\C[1]?=some (.string ⟨#[50]⟩)/\SB w g2 32 (textsV [⟨#[45,49]⟩,⟨#[45,50]⟩]).toArray
theorem GvM.staysX{B:Nat}{xs b:Vv}:StaysX (ApR 84 47 B xs b) GvM:=fun _ _ _ a ⟨c,d,f,C,e,g,h,i,j⟩=>⟨c,d,f,C,e,a.sb g (by decide) (by decide),h,i,a.sb j (by decide) (by decide)⟩
theorem Qqo{a b c d:Nat}{w:Vz}(f:Glob w)(g:FrRow w (some ⟨a,0,none⟩) (some ⟨b,0,none⟩) (some ⟨c,0,none⟩) 3 2 4 cornerJ gvB gvH)(hl:SB w d 36 #[.int .i64 0,.string ⟨#[49]⟩,.string ⟨#[50]⟩]):
 Calls prog 15 #[.agg #[.slice (some ⟨a,0,none⟩) 3 3,.slice (some ⟨b,0,none⟩) 2 2,.slice (some ⟨c,0,none⟩) 4 4],.slice (some ⟨d,0,none⟩) 1 1] w (Makes w GvF):=
 (Qiu (some ⟨a,0,none⟩) (some ⟨b,0,none⟩) (some ⟨c,0,none⟩) (some ⟨d,0,none⟩) 3 2 4 1 6 1 900000 1 900000 4000000 10 cornerJ gvB gvH gvVB gvVH (fun _=>1) (fun _=>0) (fun _=>0) gvL gvVS w (Qi5 f g) Qi3 Qi4 (hl.arow rfl (by decide)) (by decide) rfl Qqi Qql (by decide) (by decide) (Qqk 899999) (by decide) (by decide) (by decide)).mono fun e w' h=>by
   obtain⟨i,j,k,C,rfl,k1,k2,l,m,n⟩:=Qqn h;exact⟨_,rfl,n,i,j,k,C,rfl,k1,k2,l,m⟩
theorem Qqp{c d f b:Nat}{w:Vz}(g:Glob w)(h:FrRow w (some ⟨c,0,none⟩) (some ⟨d,0,none⟩) (some ⟨f,0,none⟩) 3 2 4 cornerJ gvB gvH)(hl:SB w b 32 (textsV [⟨#[45,49]⟩,⟨#[45,50]⟩]).toArray):
 Calls prog 19 #[.agg #[.slice (some ⟨c,0,none⟩) 3 3,.slice (some ⟨d,0,none⟩) 2 2,.slice (some ⟨f,0,none⟩) 4 4],.slice (some ⟨b,0,none⟩) 2 2] w (Makes w (Is (.tuple #[.string ⟨#[53,47,50]⟩,.agg #[.int .i64 0,.int .i64 0]]))):=
 (Qiw (some ⟨c,0,none⟩) (some ⟨d,0,none⟩) (some ⟨f,0,none⟩) (some ⟨b,0,none⟩) 3 2 4 2 6 10 4194325 cornerJ gvB gvH gvVB gvVH (fun _=>1) (fun _=>0) (fun _=>0) (vec [-1,-2]) [⟨#[45,49]⟩,⟨#[45,50]⟩] w (Qi5 g h) Qi3 Qi4 ⟨fun j u k=>⟨b,0,rfl,hl.lt,by rw[Nat.zero_add,hl.cell];simpa using k⟩⟩ rfl (fun i s a=>by
   match i,a with
   |0,a=>cases a;exact⟨qtm.back,by decide,by decide +kernel,by decide +kernel⟩
   |1,a=>cases a;exact⟨qtm2.back,by decide,by decide +kernel,by decide +kernel⟩
   |n+2,a=>cases a) (1 / 2) qtext_half.back (by decide) (by decide) (by decide)).mono fun e w' ⟨⟨s,l,a⟩,m⟩=>by
   have o:dot gvB.length (vec [-1,-2]) (fun i=>vec [-1,-2] i / 1)*(1 / 2)=5 / 2:=by decide +kernel
   rw[o] at a;obtain rfl:=Qc4 a qt52;exact⟨_,l,m,rfl⟩
def LdF:Fact:=fun v w=>∃b:Nat,v=.slice (some ⟨b,0,none⟩) 1 1/\SB w b 36 #[.int .i64 0,.string ⟨#[49]⟩,.string ⟨#[50]⟩]
theorem LdF.staysX{B:Nat}{xs a:Vv}:StaysX (ApR 84 47 B xs a) LdF:=fun _ _ _ c ⟨b,e,h⟩=>⟨b,e,c.sb h (by decide) (by decide)⟩
def TxF(l:Vt):Fact:=fun v w=>∃b:Nat,v=.slice (some ⟨b,0,none⟩) l.length l.length/\SB w b 32 (textsV l).toArray
theorem TxF.stays(l:Vt):Stays (TxF l):=fun _ _ _ a ⟨b,e,h⟩=>⟨b,e,h.below a h.lt⟩
theorem Qi6(s t:Vs)(w:Vz):Calls prog 40 #[.string s,.string t] w (Makes w (Is (.agg #[.string s,.string t]))):=(Qbs s t w).mono fun e w' ⟨a,b⟩=>⟨_,a,b,rfl⟩
theorem Qqq{a b:Vx}{c d:Nat}{l:Vt}{w:Vz}(f:TLst w a l)(g:TLst w b l)(h:l.length<=1000000):Calls prog 41 #[.slice a l.length c,.slice b l.length d] w (Makes w (Is (.bool true))):=(Qfz a b c d l w f g h).mono fun e w' ⟨i,j⟩=>⟨_,i,j,rfl⟩
theorem Qqr(w:Vz)(hg:Glob w):Calls prog 6 #[] w fun e w'=>e=.returned (.bool true)/\Below w.heap.size w w':=by
 have HG:=Hi hg;clear hg;go_enter func6,ntmps6;go_wp2_with fail;go_fit (Qbs ⟨#[48]⟩ ⟨#[48]⟩ w);rintro e w1 ⟨rfl,a⟩;have U:=Hi a;clear a;go_wp2_with fail;go_fit (Qbs ⟨#[49]⟩ ⟨#[48]⟩ w1);rintro e w2 ⟨rfl,a⟩;have V:=Hi (U.o.trans (a.mono U.o.size));clear a U;go_wp2_with fail;go_fit (Qbs ⟨#[48]⟩ ⟨#[49]⟩ w2);rintro e Q ⟨rfl,a⟩;have ak:=Hi (V.o.trans (a.mono V.o.size));clear a V;obtain⟨g1,A⟩:=nm Q.heap.size;obtain⟨A2,J⟩:=nm (g1+1);obtain⟨A3,W⟩:=nm (A2+1);obtain⟨BF,al⟩:=nm (A3+1)
 obtain⟨L,i⟩:=nm (((Q.alloc (.cells #[.string ⟨#[48]⟩,.string ⟨#[48]⟩,.string ⟨#[49]⟩,.string ⟨#[48]⟩,.string ⟨#[48]⟩,.string ⟨#[49]⟩] 34)).alloc (.cells #[.int .i64 0,.int .i64 1,.string ⟨#[49]⟩,.string ⟨#[]⟩,.string ⟨#[]⟩,.string ⟨#[]⟩,.int .i64 0,.int .i64 2,.string ⟨#[49]⟩,.string ⟨#[]⟩,.string ⟨#[]⟩,.string ⟨#[]⟩] 84)).alloc (.cells #[.int .i64 1,.int .i64 1,.string ⟨#[]⟩,.int .i64 1,.int .i64 2,.string ⟨#[]⟩,.int .i64 2,.int .i64 1,.string ⟨#[]⟩,.int .i64 2,.int .i64 2,.string ⟨#[]⟩] 86));have hz3:L.heap.size=BF:=by rw[<-i];simp only[World.size_alloc];omega
 have s1:SB L g1 34 #[.string ⟨#[48]⟩,.string ⟨#[48]⟩,.string ⟨#[49]⟩,.string ⟨#[48]⟩,.string ⟨#[48]⟩,.string ⟨#[49]⟩]:=by rw[<-i,<-A];exact((SB.new Q _ _).alloc _).alloc _
 have s2:SB L A2 84 #[.int .i64 0,.int .i64 1,.string ⟨#[49]⟩,.string ⟨#[]⟩,.string ⟨#[]⟩,.string ⟨#[]⟩,.int .i64 0,.int .i64 2,.string ⟨#[49]⟩,.string ⟨#[]⟩,.string ⟨#[]⟩,.string ⟨#[]⟩]:=by rw[<-i,<-J,<-A];exact(Qai Q _ _ _).alloc _
 have s3:SB L A3 86 #[.int .i64 1,.int .i64 1,.string ⟨#[]⟩,.int .i64 1,.int .i64 2,.string ⟨#[]⟩,.int .i64 2,.int .i64 1,.string ⟨#[]⟩,.int .i64 2,.int .i64 2,.string ⟨#[]⟩]:=by
  rw[<-i,<-W,<-J,<-A];have h:=Qai (Q.alloc (.cells #[.string ⟨#[48]⟩,.string ⟨#[48]⟩,.string ⟨#[49]⟩,.string ⟨#[48]⟩,.string ⟨#[48]⟩,.string ⟨#[49]⟩] 34)) (.cells #[.int .i64 0,.int .i64 1,.string ⟨#[49]⟩,.string ⟨#[]⟩,.string ⟨#[]⟩,.string ⟨#[]⟩,.int .i64 0,.int .i64 2,.string ⟨#[49]⟩,.string ⟨#[]⟩,.string ⟨#[]⟩,.string ⟨#[]⟩] 84) 86 #[.int .i64 1,.int .i64 1,.string ⟨#[]⟩,.int .i64 1,.int .i64 2,.string ⟨#[]⟩,.int .i64 2,.int .i64 1,.string ⟨#[]⟩,.int .i64 2,.int .i64 2,.string ⟨#[]⟩];rw[World.size_alloc] at h;exact h
 have X:Bl Q L:=by rw[<-i];exact(Below.new2 Q _ _).alloc (by simp;omega) _
 obtain⟨Y,hY⟩:=nm ((L.alloc (.cells #[.slice (some ⟨g1,0,none⟩) 3 3,.slice (some ⟨A2,0,none⟩) 2 2,.slice (some ⟨A3,0,none⟩) 4 4] 26)).drew);have B:Bl L Y:=by rw[<-hY];exact(bR.alloc lZ _).drew
 have M:=Hi (ak.o.trans ((X.trans (B.mono X.size)).mono ak.o.size));have q:O (SB Y BF 26 #[.slice (some ⟨g1,0,none⟩) 3 3,.slice (some ⟨A2,0,none⟩) 2 2,.slice (some ⟨A3,0,none⟩) 4 4]):=Hi (by rw[<-hY,<-hz3];exact(SB.new L _ _).drew);have am:O (FrRow Y (some ⟨g1,0,none⟩) (some ⟨A2,0,none⟩) (some ⟨A3,0,none⟩) 3 2 4 cornerJ gvB gvH):=Hi ⟨(s1.below B s1.lt).arow rfl (by decide),(s2.below B s2.lt).arow rfl (by decide),(s3.below B s3.lt).arow rfl (by decide)⟩;obtain⟨an,ao,ap⟩:=Ib (q.o.cell 0) (q.o.cell 1) (q.o.cell 2);simp only[List.getElem?_toArray,List.getElem?_cons_zero,List.getElem?_cons_succ] at an ao ap;obtain⟨HX,a5,a6,a7,a8,a9⟩:=Ie i A al hY J W;clear i A al hY X B s1 s2 s3 J W hz3;go_wp2_with fail
 refine RegX.bg (ApR 84 47 Y.heap.size [] []) 10 (fun j=>some (bif j == 5 then 19 else bif j == 6 then 25 else bif j == 7 then 26 else bif j == 8 then 2 else bif j == 9 then 3 else 20+j)) ?_;rw[HX.o];simp only[a5.o,a8.o,a9.o,a6.o];rw[a7.o];have k:RelOK (ApR 84 47 Y.heap.size [] []):=ApR.ok;refine RegX.pu k (c:=?_) [] (fun w a=>?_) ?_;rotate_left
 .
  intro K d;replace a:=a.below lZ;obtain⟨d0,d1,d2⟩:=Jb a q.o.lt an.o ao.o ap.o;go_simp;exact d
 refine RegX.ca (φ:=Is (.agg #[.string ⟨#[49]⟩,.string ⟨#[50]⟩])) [] (Is.staysX _ _) (fun w a=>?_) ?_
 .
  intro K d;go_simp;exact Makes.use (Qi6 _ _ _) (fun v w' Z h=>d v w' (ApR.of_below Z) h)
 refine RegX.pu k (c:=?_) [1] (fun w a=>?_) ?_;rotate_left
 .
  intro K d;go_simp;exact d
 refine RegX.ca (φ:=LdF) [2] LdF.staysX (fun w a=>?_) ?_
 .
  intro K d;go_simp;exact d _ _ (ApR.of_below (bR.alloc lZ _)) ⟨w.heap.size,rfl,SB.new w _ _⟩
 refine RegX.ca (φ:=GvF) [0,3] GvF.staysX (fun w a=>?_) ?_
 .
  rintro v3 ⟨bl,rfl,hl⟩;intro K d;go_simp;exact Makes.use (Qqo (HG.o.below (M.o.trans ((a.below lZ).mono M.o.size))) (am.o.below (a.below lZ)) hl) (fun v w' Z h=>d v w' (ApR.of_below Z) h)
 refine RegX.ca (φ:=GvF) [4] GvF.staysX (fun w a=>?_) ?_
 .
  intro v4 h4 K d;go_simp;exact d _ _ (k.refl _) h4
 refine RegX.ca (φ:=GvM) [5] GvM.staysX (fun w a=>?_) ?_
 .
  rintro v4 ⟨h1,g,h3,C,rfl,h⟩;intro K d;go_simp;exact d _ _ (k.refl _) ⟨h1,g,h3,C,rfl,h⟩
 refine RegX.ca (φ:=Is (.agg #[.int .i64 0,.int .i64 0])) [5] (Is.staysX _ _) (fun w a=>?_) ?_
 .
  rintro v4 ⟨h1,g,h3,C,rfl,h⟩;intro K d;go_simp;exact d _ _ (k.refl _) rfl
 refine RegX.ca (φ:=NewM 47 3 Y.heap.size) [] NewM.staysX (fun w a=>?_) ?_
 .
  intro K d;go_simp;exact d _ _ (ApR.of_below (bR.alloc lZ _)) ⟨w.heap.size,_,rfl,a.size,SB.new w _ _,rfl⟩
 refine RegX.ca (φ:=NewS 41 #[.int .i64 0,.int .i64 0] Y.heap.size) [] (NewS.staysX (by decide) (by decide)) (fun w a=>?_) ?_
 .
  intro K d;go_simp;exact d _ _ (ApR.of_below (bR.alloc lZ _)) ⟨w.heap.size,rfl,a.size,SB.new w _ _⟩
 refine RegX.twoU k [7] (by simp only[List.nil_append,List.cons_append,List.length_append,List.length_cons,List.length_nil,Nat.reduceAdd]) (by rfl) (by simp only[List.getElem?_toArray,List.getElem?_cons_zero,List.getElem?_cons_succ];exact rfl) (by simp only[List.getElem?_toArray,List.getElem?_cons_zero,List.getElem?_cons_succ];exact rfl) (by rfl) (by kernel_rfl) (fun j hj=>?_) (fun u a=>?_)
 .
  obtain rfl:=List.mem_singleton.1 hj;refine⟨_,[5],(by simp only[List.getElem?_toArray,List.getElem?_cons_zero,List.getElem?_cons_succ];exact rfl),by kernel_rfl,fun w a=>?_⟩;simp only[Given,List.nil_append,List.cons_append,List.getD_cons_zero,List.getD_cons_succ,Qad,Act.put,List.setIfInBounds_toArray,List.set_cons_zero,List.set_cons_succ,Nat.reduceAdd,Nat.reduceBEq,cond_true,cond_false];rintro v4 ⟨h1,g,h3,C,rfl,h⟩;intro K d;go_simp;exact d
 rw[show restOf 10 [7]= [0,1,2,3,4,5,6,8,9] from rfl];simp only[Given,List.nil_append,List.cons_append,List.getD_cons_zero,List.getD_cons_succ,Qad,Act.put,List.setIfInBounds_toArray,List.set_cons_zero,List.set_cons_succ,Nat.reduceAdd,Nat.reduceBEq,cond_true,cond_false];intro v3 _ v4 _ v5 _ v6 h6 v8 h8 v9 h9;obtain⟨g4,g5,g6,C,rfl,hj,aq,ar,ht⟩:=h6;obtain⟨b2,D,rfl,au,g,hz2⟩:=h8;obtain⟨b3,rfl,ba,h3⟩:=h9;obtain⟨d0,d1,d2,rfl⟩:∃d0 d1 d2,D=#[d0,d1,d2]:=by
  match D,hz2 with
  |⟨[x,y,z]⟩,_=>exact⟨x,y,z,rfl⟩
 have c0:=g.cell 0;have c1:=g.cell 1;have c2:=g.cell 2;simp only[List.getElem?_toArray,List.getElem?_cons_zero,List.getElem?_cons_succ] at c0 c1 c2;have f0:=g.free 0;have f1:=g.free 1;have f2:=g.free 2;have r:=((g.set 0 (.slice (some ⟨g4,0,none⟩) 3 3)).set 1 (.slice (some ⟨g5,0,none⟩) 2 2)).set 2 (.slice (some ⟨g6,0,none⟩) 4 4);simp only[List.setIfInBounds_toArray,List.set_cons_zero,List.set_cons_succ] at r;have m:=(((Only.refl b2 u).setCell 0 (.slice (some ⟨g4,0,none⟩) 3 3)).setCell 1 (.slice (some ⟨g5,0,none⟩) 2 2)).setCell 2 (.slice (some ⟨g6,0,none⟩) 4 4);obtain⟨U1,aa⟩:=nm (((u.setCell ⟨b2,0,none⟩ (.slice (some ⟨g4,0,none⟩) 3 3)).setCell ⟨b2,1,none⟩ (.slice (some ⟨g5,0,none⟩) 2 2)).setCell ⟨b2,2,none⟩ (.slice (some ⟨g6,0,none⟩) 4 4));rw[aa] at r m;have f:=h3.only m (h3.unlike g (by decide));have ab:=hj.only m (hj.unlike g (by decide))
 have ad:=ht.only m (ht.unlike g (by decide));have av:=Only.fresh (a.below lZ) m au;have bb:O (ApR 84 47 Y.heap.size [] [] u U1):=Hi (ApR.of_only m g r rfl au (by decide));have e0:=f.cell 0;have e1:=f.cell 1;simp only[List.getElem?_toArray,List.getElem?_cons_zero,List.getElem?_cons_succ] at e0 e1;have k0:=f.free 0;have k1:=f.free 1;have ae:=(f.set 0 (.int .i64 0)).set 1 (.int .i64 0);have s:=((Only.refl b3 U1).setCell 0 (.int .i64 0)).setCell 1 (.int .i64 0);obtain⟨U2,af⟩:=nm ((U1.setCell ⟨b3,0,none⟩ (.int .i64 0)).setCell ⟨b3,1,none⟩ (.int .i64 0));rw[af] at ae s;have E:=Hi (by simpa using ae);have n:=Hi (r.only s (r.unlike f (by decide)));have F:=Hi (ab.only s (ab.unlike f (by decide)));have p:=Hi (ad.only s (ad.unlike f (by decide)));have ag:=Hi (Only.fresh av s ba)
 obtain⟨HC,bc,bd⟩:=Ib (And.intro aq ar) aa af;clear r f ab ad m s av ae hj ht aq ar g h3 a aa af k hz2;intro K1 aw;go_simp;rw[bc.o];refine aw _ bb.o ?_;intro K2 ax;clear aw c0 c1 c2 f0 f1 f2;go_simp;refine ax _ _ ?_;clear ax e0 e1 k0 k1;rw[bd.o];have N:=q.o.below ag.o q.o.lt;have x0:=N.cell 0;have x1:=N.cell 1;have x2:=N.cell 2;have x3:=n.o.cell 1;simp only[List.getElem?_toArray,List.getElem?_cons_zero,List.getElem?_cons_succ] at x0 x1 x2 x3;have ah:=Hi (M.o.trans (ag.o.mono M.o.size));have ay:=Hi (Qqp (HG.o.below ah.o) (am.o.below ag.o) p.o);clear N;go_wp2_with fail;refine Makes.use ay.o ?_;rintro _ w5 ai rfl;clear x0 x1 x2 x3;obtain⟨b5,G⟩:∃b5,w5.heap.size=b5:=⟨_,rfl⟩;obtain⟨U5,P⟩:=nm ((w5.alloc (.cells #[.int .i64 0,.int .i64 0] 41)).drew)
 have t:Bl U2 U5:=by rw[<-P];exact(ai.alloc ai.size _).drew
 have az:O (SB U5 b5 41 #[.int .i64 0,.int .i64 0]):=Hi (by rw[<-P,<-G];exact(SB.new w5 _ _).drew);obtain⟨a0,H,aj,a1,a2,be,bf⟩:=If (E.o.below t E.o.lt) (n.o.below t n.o.lt) (F.o.below t F.o.lt) (p.o.below t p.o.lt) (ah.o.trans (t.mono ah.o.size)) G P;clear ai G P t E n F p ay;go_wp2_with fail;refine RegG.bg 33 (fun j=>some (35+j)) ?_;rw[bf.o,be.o];obtain⟨R,S,I,T,a3,a4⟩:=Ie (a0.o.cell 0) (az.o.cell 0) (H.o.cell 0) (H.o.cell 1) ((aj.o.cell 0).trans HC.o.1) ((aj.o.cell 1).trans HC.o.2);simp only[List.getElem?_toArray,List.getElem?_cons_zero,List.getElem?_cons_succ] at R S I T;refine RegG.p0 [] ?_
 refine RegG.pu (c:=?_) [0] (fun w a=>?_) ?_;rotate_left
 .
  intro K d;have d0:=ce a a0.o.lt R.o;go_simp;exact d
 refine RegG.p0 [1] ?_;refine RegG.p0 [2] ?_;refine RegG.p0 [3] ?_;refine RegG.pu (c:=?_) [4,3] (fun w a=>?_) ?_;rotate_left
 .
  intro K d;have d0:=ce a az.o.lt S.o;go_simp;exact d
 refine RegG.p0 [5,3] ?_;refine RegG.p0 [3,6] ?_;refine RegG.p0 [7] ?_;refine RegG.p0 [8] ?_;refine RegG.pu (c:=?_) [9,8] (fun w a=>?_) ?_;rotate_left
 .
  intro K d;have d0:=ce a H.o.lt I.o;go_simp;exact d
 refine RegG.p0 [10,8] ?_;refine RegG.p0 [11,8] ?_;refine RegG.p0 [8,12] ?_;refine RegG.p0 [13] ?_;refine RegG.p0 [14] ?_;refine RegG.pu (c:=?_) [15,14] (fun w a=>?_) ?_;rotate_left
 .
  intro K d;have d0:=ce a H.o.lt I.o;go_simp;exact d
 refine RegG.p0 [16,14] ?_;refine RegG.pu (c:=?_) [17,14] (fun w a=>?_) ?_;rotate_left
 .
  intro K d;obtain⟨d0,d1⟩:=Ja a aj.o.lt a3.o a4.o;go_simp;exact d
 refine RegG.ca (φ:=Is (.agg #[.string ⟨#[49]⟩,.string ⟨#[50]⟩])) [14] (Is.stays _) (fun w a=>?_) ?_
 .
  intro K d;go_simp;exact Makes.use (Qi6 _ _ _) d
 refine RegG.p0 [18,19,14] ?_;refine RegG.p0 [14,20] ?_;refine RegG.p0 [21] ?_;refine RegG.p0 [22] ?_;refine RegG.p0 [23,22] ?_;refine RegG.pu (c:=?_) [24,22] (fun w a=>?_) ?_;rotate_left
 .
  intro K d;have d0:=ce a H.o.lt T.o;go_simp;exact d
 refine RegG.ca (φ:=TxF [⟨#[45,49]⟩,⟨#[45,50]⟩]) [22] (TxF.stays _) (fun w a=>?_) ?_
 .
  intro K d;go_simp;exact d _ _ (bR.alloc lZ _) ⟨w.heap.size,rfl,SB.new w _ _⟩
 refine RegG.ca (φ:=Is (.bool true)) [25,26,22] (Is.stays _) (fun w a=>?_) ?_
 .
  rintro v ⟨b,rfl,hs⟩;intro K d;go_simp;exact Makes.use (Qqq (l:=[⟨#[45,49]⟩,⟨#[45,50]⟩]) (SB.texts (a1.o.below a a1.o.lt)) (SB.texts hs) (by decide)) d
 refine RegG.p0 [22,27] ?_;refine RegG.p0 [28] ?_;refine RegG.p0 [29] ?_;refine RegG.p0 [30,29] ?_;refine RegG.p0 [29,31] ?_;refine RegG.last (by simp only[List.nil_append,List.cons_append,List.length_append,List.length_cons,List.length_nil,Nat.reduceAdd]) (by rfl) (by rfl) (by kernel_rfl) (fun x9 a=>?_);simp only[FinG,List.nil_append,List.cons_append,Qad,Act.put,List.setIfInBounds_toArray,List.set_cons_zero,List.set_cons_succ,Nat.reduceAdd,Nat.reduceBEq,cond_true,cond_false];intro bi _ K d;go_simp;refine d _ _ ?_;have bh:=Hi (a2.o.trans (a.mono a2.o.size));clear d a;go_wp2;go_ret;exact⟨rfl,bh.o⟩
theorem Qf5(vh:Vy):∀k,hldM vh (fun _=>0) k=fun _=>0
 |0=>rfl
 |k+1=>funext fun w=>by
  show (if vh[k]?=some w then (0:Rat) else hldM vh (fun _=>0) k w)=0
  rw[Qf5 vh k]
  split<;>rfl
theorem Qf6{vs:List (Nat × Rat × Rat)}(h:∀p,p∈ vs->Fits p.2.1 4194305/\Fits p.2.2 4194305):∀k i,Fits (agn (vs.take k) i) (k*4194306+1)
 |0,i=>Fits.zero.mono (by omega)
 |k+1,i=>by
  have d:=Qf6 h k;cases hp:vs[k]? with
  |none=>
   have e:vs.take (k+1)=vs.take k:=by rw[List.take_add_one,hp];simp
   rw[e];exact(d i).mono (by omega)
  |some p=>
   have f:=h p (mO hp);rw[Qdn hp];by_cases g:i=2*p.1
   . rw[g,agn_x]
     exact((d _).sub f.1).mono (by omega)
   .
    by_cases j:i=2*p.1+1
    . rw[j,agn_y]
      exact((d _).sub f.2).mono (by omega)
    . rw[Qe4 g j]
      exact(d i).mono (by omega)
theorem LVal.fits{ls:List L3}{vs:List (Nat × Rat × Rat)}(h:LVal ls vs)(hl:ls.length<=20):∀k i,Fits (agn (vs.take k) i) 83886121:=fun k i=>by
 have f:∀p,p∈ vs->Fits p.2.1 4194305/\Fits p.2.2 4194305:=fun p n=>by
  obtain⟨j,g⟩:=List.getElem?_of_mem n;obtain⟨l,d⟩:∃l,ls[j]?=some l:=⟨ls[j]'(by have:=(gZ g).1;have:=h.len;omega),gE _⟩;obtain⟨_,o,q,r,s⟩:=h.at_ j l p d g;exact⟨(o.fits' r).mono (by decide),(q.fits' s).mono (by decide)⟩
 rcases Nat.lt_or_ge k 21 with t|t
 . exact(Qf6 f k i).mono (by omega)
 .
  have e:vs.take k=vs.take 20:=by rw[List.take_of_length_le (by have:=h.len;omega),List.take_of_length_le (by have:=h.len;omega)]
  rw[e];exact(Qf6 f 20 i).mono (by decide)
theorem Qi7:∀bs:List B6,bW (bs.map qBar)<=bW bs+bs.length
 | []=>by simp[bW]
 |s :: l=>by
  have:=Qi7 l;have e:(⟨#[48]⟩:ByteArray).size=1:=rfl;simp only[List.map_cons,bW,List.length_cons,qBar,e];omega
theorem Qi8:∀hs:List H3,hW (hs.map qHold)<=hs.length
 | []=>by simp[hW]
 |s :: l=>by
  have:=Qi8 l;have e:(⟨#[48]⟩:ByteArray).size=1:=rfl;simp only[List.map_cons,hW,List.length_cons,qHold,e];omega
theorem Qd9{js:List S2}{bs:List B6}{hs:List H3}(d:FrSized js bs hs):FrSized js (bs.map qBar) (hs.map qHold):=by
 refine⟨d.j,fun b f=>?_,fun x g=>?_⟩
 .
  obtain⟨c,e,rfl⟩:=List.mem_map.1 f;obtain⟨h,_,i,k⟩:=d.b c e;exact⟨h,by show (⟨#[48]⟩:ByteArray).size<=_;decide,i,k⟩
 .
  obtain⟨c,e,rfl⟩:=List.mem_map.1 g
  show (⟨#[48]⟩:ByteArray).size<=_
  decide
structure QN (js:List S2) (bs:List B6) (hs:List H3) (vb:List (Nat × Nat × Rat × Rat)) (vh:Vy) (cv:Vec):Prop where
 fv:FrV 1048576 js bs hs vb vh
 ce:∀(i:Nat) (b:B6),bs[i]?=some b->QOf b.c.data.toList (cv i)/\QOf b.e.data.toList 0/\b.c.size<=1048576/\b.e.size<=1048576
 by_:∀(i:Nat) (h:H3),hs[i]?=some h->QOf h.q.data.toList 0/\h.q.size<=1048576
 pos:∀i,i<bs.length->cv i≠0
theorem Qqt{js:List S2}{bs:List B6}{hs:List H3}(n:FrSized js bs hs)(f:FrameFault js (bs.map qBar) (hs.map qHold) 0 0):∃vb vh cv,QN js (bs.map qBar) (hs.map qHold) vb vh cv:=by
 obtain⟨vb,vh,o,_⟩:=Qnj (Qd9 n) f;obtain⟨_,p,_,_⟩:=f.few;have t:∀i:Nat,∃q:Rat,∀b,(bs.map qBar)[i]?=some b->QOf b.c.data.toList q/\q≠0:=fun i=>by
  cases r:(bs.map qBar)[i]? with
  |none=>exact⟨0,fun b g=>by cases g⟩
  |some b=>
   rcases p i b r with ⟨_,h⟩|⟨_,_,_,_,_,_,w,x,y,z,u,A,B,_,_,_,_,v,_,_,k⟩
   . cases h
   .
    refine⟨u,fun c l=>?_⟩;cases l;refine⟨v,fun e=>?_⟩;subst e
    split at k
    . cases k
    . rw[if_pos (.inl (by decide))] at k
      cases k
 obtain⟨cv,j⟩:=Classical.axiomOfChoice t;refine⟨vb,vh,cv,o,fun i b g=>?_,fun i h s=>?_,fun i r=>(j i _ (gE r)).2⟩
 .
  have d:=(Qd9 n).b b (mO g);rw[List.getElem?_map] at g;obtain⟨c,l,rfl⟩:=Option.map_eq_some_iff.1 g;exact⟨(j i _ (by rw[List.getElem?_map,l];rfl)).1,q0_of,d.1,d.2.1⟩
 .
  have d:=(Qd9 n).h h (mO s);rw[List.getElem?_map] at s;obtain⟨c,l,rfl⟩:=Option.map_eq_some_iff.1 s;exact⟨q0_of,d⟩
theorem QN.givV{js:List S2}{bs:List B6}{hs:List H3}{vb:List (Nat × Nat × Rat × Rat)}{vh:Vy}{cv:Vec}(h:QN js bs hs vb vh cv){w:Vz}{d e f:Vx}{c1 c2 c3:Nat}(g:Glob w)(i:FrRow w d e f c1 c2 c3 js bs hs):GivV w d e f c1 c2 c3 (2*js.length) js bs hs vb vh cv (fun _=>0) (fun _=>0):=
 ⟨g,i,h.fv,h.ce,h.by_,rfl⟩
theorem QN.over{js:List S2}{bs:List B6}{hs:List H3}{vb:List (Nat × Nat × Rat × Rat)}{vh:Vy}{cv:Vec}(h:QN js bs hs vb vh cv){ls:List L3}{vs:List (Nat × Rat × Rat)}(hl:ls.length<=20)(d:LVal ls vs)(f:∀(i:Nat) (x:L3),ls[i]?=some x->IsJ js.length x.j)(g:jW js+bW bs+hW hs+lW ls<=1048676):∃P b Q c,GivP P b Q c vb bs.length hs.length cv (fun _=>0) (fun _=>0) (agn vs)/\2*b+2*c+12<=8389708:=
 h.fv.overG (N:=0) (fun i b e=>⟨(h.ce i b e).1,(h.ce i b e).2.1⟩) (fun i x k=>(h.by_ i x k).1) hl d.len (d.loadV f) g
section
variable {nj nb:Nat} {vb:List (Nat × Nat × Rat × Rat)} {vh:Vy} {cv a a' m m':Vec}
def OneM(nj nb:Nat)(vb:List (Nat × Nat × Rat × Rat))(vh:Vy)(cv a m:Vec):Prop:=
 Giv.Settles (2*nj) nb (balM vb nb vh) cv (fun _=>0) (freeW vh) (fun _=>0) a m/\∀m',Giv.Settles (2*nj) nb (balM vb nb vh) cv (fun _=>0) (freeW vh) (fun _=>0) a m'->∀r,r<2*nj->m' r=m r
abbrev tM(nj nb:Nat)(vb:List (Nat × Nat × Rat × Rat))(vh:Vy)(cv m:Vec):Vec:=Giv.tOf (2*nj) (balM vb nb vh) cv (fun _=>0) m
def MovedOK(nj nb:Nat)(vb:List (Nat × Nat × Rat × Rat))(vh:Vy)(cv a:Vec)(KM:Nat)(p1 p2:Vx)(n1 n2:Nat)(w:Vz):Prop:=
 n1=nj/\n2=nb/\∃(g1 g2:Nat) (ss:List S2) (tb:Vt) (m:Vec),p1=some ⟨g1,0,none⟩/\p2=some ⟨g2,0,none⟩/\ss.length=nj/\SB w g1 34 (ss.flatMap S2.cells).toArray/\SpotsTold m ss/\SB w g2 32 (textsV tb).toArray/\TextsOf nb (tM nj nb vb vh cv m) tb/\OneM nj nb vb vh cv a m/\∀r,r<2*nj->Fits (m r) KM
theorem MovedOK.below{d n1 e:Nat}{f g:Vx}{w w':Vz}(h:MovedOK nj nb vb vh cv a d f g n1 e w)(i:Bl w w'):MovedOK nj nb vb vh cv a d f g n1 e w':=by
 obtain⟨l,n,o,p,q,tb,m,r,s,t,j,u,k,v⟩:=h;exact⟨l,n,o,p,q,tb,m,r,s,t,j.below i j.lt,u,k.below i k.lt,v⟩
def MovedIs(nj nb:Nat)(vb:List (Nat × Nat × Rat × Rat))(vh:Vy)(cv a:Vec)(KM:Nat)(p1 p2:Vx)(n1 n2:Nat)(cd:Int)(w:Vz):Prop:=
 (cd≠0/\¬∃m,OneM nj nb vb vh cv a m)∨(cd=0/\MovedOK nj nb vb vh cv a KM p1 p2 n1 n2 w)
theorem MoveSays.form{nh A:Nat}{js:List S2}{bs:List B6}{hs:List H3}{w w':Vz}{e:Ending}(H:FrV 1048576 js bs hs vb vh)(h:MoveSays w js.length bs.length nh A vb vh cv (fun _=>0) (fun _=>0) a e w'):
 ∃(B C I:Vx) (n1 n D:Nat) (E:Int),e=.returned (.tuple #[.agg #[.slice B n1 n1,.slice C n n,.slice I D D],.agg #[.int .i64 E,.int .i64 0]])/\MovedIs js.length bs.length vb vh cv a A B C n1 n E w'/\Below w.heap.size w w':=by
 obtain⟨h,o⟩:=h;rw[Qf5] at h;rcases h with ⟨f,h⟩|⟨f,x,y,k,J,r,F,p⟩|⟨K,L,T,M,tb,U,m,t,f,hl,q,u,v,d,_,_,O,g,j,R⟩
 . exact⟨none,none,none,0,0,0,8,f,.inl ⟨by decide,fun ⟨m,l⟩=>h m l.1⟩,o⟩
 . exact⟨none,none,none,0,0,0,9,f,.inl ⟨by decide,fun ⟨m,l⟩=>p ((l.2 x k r F).trans (l.2 y J r F).symm)⟩,o⟩
 .
  refine⟨_,_,_,_,_,_,0,f,.inr ⟨rfl,rfl,rfl,K,L,M,tb,m,rfl,rfl,hl,q,u,v,⟨d.1,fun i s G=>?_⟩,⟨g,j⟩,R⟩,o⟩;have k:=d.2 i s G;rw[O] at k;have z:i<bs.length:=by have:=(gZ G).1;have:=d.1;omega
  have S:cv i*(stretchV vb m i - 0)=tM js.length bs.length vb vh cv m i:=by
   rw[Qf3 H rfl m z];rfl
  rw[<-S];exact k
end
section
variable {P b Q c N:Nat} {js:List S2} {bs:List B6} {hs:List H3} {vb:List (Nat × Nat × Rat × Rat)} {vh:Vy} {cv a m:Vec}
theorem Qqu{E g:Nat}(p:21*E+126<=g)(d:GivP P b Q c vb bs.length hs.length cv (fun _=>0) (fun _=>0) a)(k:FrV 1048576 js bs hs vb vh)(q:2*b+2*c+12<=E)(h:OneM js.length bs.length vb vh cv a m)(s:∀i,i<bs.length->cv i≠0):
 (∀i,i<bs.length->Fits (tM js.length bs.length vb vh cv m i) g)/\Fits (dot bs.length (tM js.length bs.length vb vh cv m) (fun i=>tM js.length bs.length vb vh cv m i / cv i)*(1 / 2)) g:=by
 have o:=Qf5 vh hs.length;obtain⟨Y,y1,y2,y3⟩:=d.over (a:=a) (m:=m) k rfl q (by rw[o];exact h.1) (by rw[o];exact h.2);have x:=k.j;have y:=k.b;obtain⟨K,t⟩:∃K,K=20*E+120+c:=⟨_,rfl⟩;rw[<-t] at y2 y3;refine⟨fun i u=>?_,?_⟩
 .
  have l:Wh (P*Y) (b+K+5) (dot (2*js.length) (fun w=>balM vb bs.length vh w i) m):=Qck (by omega) (fun r v=>(d.fr.at r i).mul (y3 r v));have n:Wh (Q*(P*Y)) (c+(b+K+5)) (tM js.length bs.length vb vh cv m i):=by
   have e:tM js.length bs.length vb vh cv m i=cv i* -(dot (2*js.length) (fun w=>balM vb bs.length vh w i) m):=by
    show cv i*(-(dot (2*js.length) (fun w=>balM vb bs.length vh w i) m) - 0)=_
    grind
   rw[e];exact(d.ce i u).1.mul l.neg
  refine(n.fits (Nat.mul_pos d.pos (Nat.mul_pos d.fr.pos y1)) ?_).mono (by omega);have f:=Nat.mul_le_mul d.le (Nat.mul_le_mul d.fr.le y2);rw[<-Nat.pow_add,<-Nat.pow_add] at f;exact Nat.le_trans f (Nat.pow_le_pow_right (by decide) (by omega))
 .
  have l:=Qp9 (N:=2*js.length) d.pos d.le y1 y2 (by omega) d.a y3;have n:=Giv.clapeyron h.1 s;have e:dot bs.length (tM js.length bs.length vb vh cv m) (fun i=>tM js.length bs.length vb vh cv m i / cv i)*(1 / 2)=(0 - dot (2*js.length) a m)*(1 / 2):=by
   rw[n];grind
  rw[e];have f:Fits (1 / 2:Rat) 2:=⟨by decide +kernel,by decide +kernel⟩;exact((Fits.zero.sub l).mul f (by omega)).mono (by omega)
end
structure BK (w:Vz) (B0:Nat) (a1:Vx) (c1 nj:Nat) (b2 b3:Vx) (d2 d3:Nat) (bs:List B6) (hs:List H3) (P:List (Nat × List RT)) (X:List (Nat × TypeId × Array Value)) (u:Vz):Prop where
 base:Bl w u
 box:SB u B0 26 #[.slice a1 nj c1,.slice b2 bs.length d2,.slice b3 hs.length d3]
 b:LAt B6.cells 84 u w.heap.size b2 d2 bs
 h:LAt H3.cells 86 u w.heap.size b3 d3 hs
 ps:∀x,x∈ P->PBlk u x.1 x.2
 xs:∀x,x∈ X->SB u x.1 x.2.1 x.2.2/\x.2.1≠41
section
variable {w u u':Vz} {B0 c1 nj d2 d3:Nat} {a1 b2 b3:Vx} {bs:List B6} {hs:List H3} {P:List (Nat × List RT)} {X:List (Nat × TypeId × Array Value)}
theorem BK.below(h:BK w B0 a1 c1 nj b2 b3 d2 d3 bs hs P X u)(a:Bl u u'):BK w B0 a1 c1 nj b2 b3 d2 d3 bs hs P X u':=
 ⟨h.base.trans (a.mono h.base.size),h.box.below a h.box.lt,h.b.below a,h.h.below a,fun x c=>(h.ps x c).below a,fun x c=>⟨(h.xs x c).1.below a (h.xs x c).1.lt,(h.xs x c).2⟩⟩
theorem BK.addX{g:Nat}{t:Vr}{C:Vw}(h:BK w B0 a1 c1 nj b2 b3 d2 d3 bs hs P X u)(a:SB u g t C)(c:t≠41):BK w B0 a1 c1 nj b2 b3 d2 d3 bs hs P ((g,t,C) :: X) u:=
 ⟨h.base,h.box,h.b,h.h,h.ps,fun x d=>by
   rcases List.mem_cons.1 d with rfl|d
   . exact⟨a,c⟩
   . exact h.xs x d⟩
theorem BK.frow(h:BK w B0 a1 c1 nj b2 b3 d2 d3 bs hs P X u){a:List S2}(c:ARow S2.cells w a1 c1 a):FrRow u a1 b2 b3 c1 d2 d3 a bs hs:=⟨c.below h.base,h.b.row,h.h.row⟩
end
def MvF(nj nb:Nat)(vb:List (Nat × Nat × Rat × Rat))(vh:Vy)(cv a:Vec)(KM:Nat):Fact:=fun v w=>∃(p1 p2 p3:Vx) (n1 n2 n3:Nat) (cd:Int),v=.tuple #[.agg #[.slice p1 n1 n1,.slice p2 n2 n2,.slice p3 n3 n3],.agg #[.int .i64 cd,.int .i64 0]]/\MovedIs nj nb vb vh cv a KM p1 p2 n1 n2 cd w
theorem Qqs{a:List S2}{bs:List B6}{hs:List H3}{vb:List (Nat × Nat × Rat × Rat)}{vh:Vy}{cv:Vec}{g n:Nat}(k:QN a bs hs vb vh cv)(y:FrSized a bs hs)(l:FrameFault a bs hs 0 0){w:Vz}{a1 m o p:Vx}{c1 c2 c3 q:Nat}(z:Glob w)(A:FrRow w a1 m o c1 c2 c3 a bs hs){ls:List L3}{vs:List (Nat × Rat × Rat)}(hl:ARow L3.cells w p q ls)(B:ls.length=n)(d:n<=20)(f:LVal ls vs)(t:∀(i:Nat) (x:L3),ls[i]?=some x->IsJ a.length x.j)(C:jW a+bW bs+hW hs+lW ls<=1048676)(D:g=184573702):
 Calls prog 15 #[.agg #[.slice a1 a.length c1,.slice m bs.length c2,.slice o hs.length c3],.slice p n q] w (Makes w (MvF a.length bs.length vb vh cv (agn vs) g)):=by
 subst B;obtain⟨P,b,Q,c,r,v⟩:=k.over d f t C;obtain⟨E,F⟩:∃E,E=8389708:=⟨_,rfl⟩;rw[<-F] at v;have hk:kC E=g:=by simp only[kC];omega
 refine(Qiu a1 m o p c1 c2 c3 q (2*a.length) P b Q c E 83886121 a bs hs vb vh cv (fun _=>0) (fun _=>0) ls vs w (k.givV z A) y l hl d f.len (f.loadV t) (f.fits d) (by decide) (by decide) r v (by omega) (by omega)).mono fun e w' h=>?_
 rw[hk] at h;obtain⟨G,H,I,n1,J,K,L,s,M,N⟩:=h.form k.fv;exact⟨_,s,N,G,H,I,n1,J,K,L,rfl,M⟩
theorem Qqv(W:Nat)(a:Vy)(r x:Vec):dot W r x=dot (Giv.frs (fun c=>a.contains c) W).length (fun j=>r ((Giv.frs (fun c=>a.contains c) W).getD j 0)) (fun j=>x ((Giv.frs (fun c=>a.contains c) W).getD j 0))+dot W r (fun c=>if a.contains c=true then 0 else x c):=by
 rw[<-Giv.dot_frs,<-Giv.d_add];refine Qac W _ _ _ _ (fun c b=>?_);cases h:a.contains c<;>simp<;>grind
theorem Qqw{W P b g m e E:Nat}{K2:Nat}{M L S:List Vec}{a:Vy}{x:Vec}(hP:0<P)(hQ:0<g)(al:P<=2 ^ b)(G:g<=2 ^ m)(hM:∀r,r∈ M->∀j,Wh P b (r j))(hW:W<=44)(h:MJ W 20 K2 M W L S a)(hl:M.length<=20)(hx:Null W M x)(o:∀c,c<W->c ∉ a->Wh g m (x c))(he:e=b+m+7)(hE:E=20*(e+6)):
 ∃Y,0<Y/\Y<=2 ^ (E+m)/\∀c,c<W->Wh Y (E+m) (x c):=by
 obtain⟨p,aa⟩:=h.1.done;obtain⟨_,ak,_,R,X,hI,_,hS⟩:=h.2.1;have hk:a.length<=20:=by omega
 obtain⟨H,hH⟩:=nm (Giv.frs (fun c=>a.contains c) W);have q:∀c,c∈ H↔c∈ a:=fun c=>by
  rw[<-hH,Giv.frs_mem];simp only[List.contains_eq_mem,decide_eq_true_eq];exact⟨fun h=>h.2,fun h=>⟨(p.head c h).2,h⟩⟩
 have K:H.Nodup:=by rw[<-hH];exact List.Nodup.sublist List.filter_sublist List.nodup_range
 have ab:a.Nodup:=by
  refine List.pairwise_iff_getElem.2 (fun i j t I ad e=>?_);have u:=p.lt_at i j a[i] a[j] ad (gE t) (gE I);omega
 have D:H.length=a.length:=by
  have u:=K.length_le_of_subset (l₂:=a) (fun c w=>(q c).1 w);have J:=ab.length_le_of_subset (l₂:=H) (fun c w=>(q c).2 w);omega
 obtain⟨k,ae⟩:=nm a.length;rw[ae] at D hk X hI hS;obtain⟨rest,A⟩:∃rest:Vec,rest=fun c=>if a.contains c=true then 0 else x c:=⟨_,rfl⟩
 have d:∀r y:Vec,dot W r y=dot k (fun j=>r (H.getD j 0)) (fun j=>y (H.getD j 0))+dot W r (fun c=>if a.contains c=true then 0 else y c):=fun r y=>by
  have:=Qqv W a r y;rw[hH,D] at this;exact this
 have F:∀i,i<k->dot k (fun j=>R i (H.getD j 0)) (fun j=>x (H.getD j 0))= -(dot W (R i) rest):=fun i t=>by
  have u:=hx (R i) (X i t);rw[d,<-A] at u;grind
 have af:0<P*g:=Nat.mul_pos hP hQ;have N:∀c,c<W->Wh g m (rest c):=fun c w=>by
  rw[A]
  show Wh g m (if a.contains c=true then 0 else x c)
  cases B:a.contains c with
  |true=>exact Wh.zero _ _
  |false=>exact o c w (by simpa using B)
 have am:Wh (P*g) e 0:=Wh.zero _ _;obtain⟨Y,y1,y2,y3⟩:=Qiv (n:=k) (P:=P*g) (e:=e) (E:=E) (M:=(List.range k).map (fun i=>fun j=>R i (H.getD j 0))) (s:=(List.range k).map (fun i=>-(dot W (R i) rest))) (x:=fun j=>x (H.getD j 0)) af (by simp) (by simp) (fun i r Z j=>by
  obtain⟨C,f,rfl⟩:=List.mem_map.1 (mO Z);have u:=(hM (R C) (X C (List.mem_range.1 f)) (H.getD j 0)).wide (Q:=g) (c:=m) G
  exact u.mono (by omega)) (fun i v hv=>by
  obtain⟨C,f,rfl⟩:=List.mem_map.1 (mO hv);obtain⟨z,O,T⟩:=Qf4 (P:=P*g) (b:=b+m) W (R C) rest (fun c w=>(hM (R C) (X C (List.mem_range.1 f)) c).mul (N c w));have J:Wh (P*g) (b+m+6) (dot W (R C) rest):=⟨z,O,Nat.le_trans T (by
   rw[Nat.pow_add 2 (b+m),Nat.mul_comm]
   exact Nat.mul_le_mul_left _ (by omega))⟩
  exact(J.mono (by omega)).neg) (fun i r v Z hv=>by
  rw[List.getElem?_map] at Z hv;obtain⟨C,f,rfl⟩:=Option.map_eq_some_iff.1 Z;obtain⟨i2,U,rfl⟩:=Option.map_eq_some_iff.1 hv;rw[f] at U;obtain rfl:=Option.some.inj U
  exact F C (List.mem_range.1 (mO f))) (fun y hy i t=>by
  obtain⟨z,T⟩:∃z:Vec,∀c,z c=if a.contains c=true then (y (H.idxOf c) - x c) else 0:=⟨_,fun _=>rfl⟩
  have V:∀j,j<k->z (H.getD j 0)=y j - x (H.getD j 0):=fun j I=>by
   have hm:H.getD j 0∈ H:=by rw[List.getD_eq_getElem?_getD,gE (by omega)];exact List.getElem_mem _
   rw[T,if_pos (by simpa using (q _).1 hm)]
   congr 2
   rw[List.getD_eq_getElem?_getD,gE (by omega)];exact K.idxOf_getElem j (by omega)
  have ag:∀i,i<k->dot W (R i) z=0:=fun i t=>by
   rw[d];have u:dot W (R i) (fun c=>if a.contains c=true then 0 else z c)=0:=Qa2 _ _ _ (fun c _=>by
    rw[T]
    cases a.contains c<;>simp<;>grind)
   have J:dot k (fun j=>R i (H.getD j 0)) (fun j=>z (H.getD j 0))=dot k (fun j=>R i (H.getD j 0)) (fun j=>y j - x (H.getD j 0)):=Qac _ _ _ _ _ (fun j I=>by rw[V j I]);rw[u,J,Qge,F i t];have h3:=hy i (fun j=>R i (H.getD j 0)) (-(dot W (R i) rest)) (by rw[List.getElem?_map,List.getElem?_range t];rfl) (by rw[List.getElem?_map,List.getElem?_range t];rfl);rw[h3];grind
  have ah:Null W S z:=fun s hs=>by
   obtain⟨l,hl⟩:=hS s hs;have O:dot W s z=dot W z (fun c=>dot k l (fun i=>R i c)):=by
    rw[Giv.dc];exact Qac _ _ _ _ _ (fun c _=>by rw[hl c])
   have e2:dot k l (fun i=>dot W (R i) z)=dot W z (fun c=>dot k l (fun i=>R i c)):=Giv.d_swap k W R l z;rw[O,<-e2];exact Qa2 _ _ _ (fun i t=>by rw[ag i t];grind)
  have ai:=p.uniq W z lZ ah (fun c _ w=>.inl (by rw[T,if_neg (by simpa using w)]));have hm:H.getD i 0∈ H:=by rw[List.getD_eq_getElem?_getD,gE (by omega)];exact List.getElem_mem _
  have h4:=ai _ ((q _).1 hm);rw[V i t] at h4
  grind) (by
  have h6:(2:Nat) ^ 6=64:=by decide
  have u:(k+1)*2 ^ e<=21*2 ^ e:=Nat.mul_le_mul_right _ (by omega);have J:2*((k+1)*2 ^ e)<=2 ^ (6+e):=by rw[Nat.pow_add];omega
  have h3:=Nat.pow_le_pow_left J k;rw[<-Nat.pow_mul] at h3;refine Nat.le_trans h3 (Nat.pow_le_pow_right (by decide) ?_);have:=Nat.mul_le_mul_left (6+e) hk;rw[hE,Nat.mul_comm 20 (e+6),Nat.add_comm e 6]
  exact this)
 refine⟨Y*g,Nat.mul_pos y1 hQ,by rw[Nat.pow_add];exact Nat.mul_le_mul y2 G,fun c w=>?_⟩;by_cases B:c∈ a
 .
  have aj:=(q c).2 B;obtain⟨j,I,O⟩:=List.getElem_of_mem aj;have u:=y3 j (by omega);have e2:H.getD j 0=c:=by rw[List.getD_eq_getElem?_getD,gE I,O];rfl
  rw[e2] at u;exact u.wide G
 . exact((o c w B).wide y2).to (Nat.mul_comm _ _) (by omega)
def comboV(mv:Vec)(xs:Nat->Vec):Nat->Vec
 |0=>fun _=>0
 |k+1=>fun c=>comboV mv xs k c+mv k*xs k c
theorem Qi9{W:Nat}{M:List Vec}{mv:Vec}{xs:Nat->Vec}:∀(k:Nat),(∀j,j<k->Null W M (xs j))->Null W M (comboV mv xs k)
 |0,_,r,hr=>Qa2 _ _ _ (fun c _=>by show r c*0=0;grind)
 |k+1,h,r,hr=>by
  have a:=Qi9 (mv:=mv) k (fun j d=>h j (by omega)) r hr;have b:=h k (by omega) r hr
  show dot W r (fun c=>comboV mv xs k c+mv k*xs k c)=0
  rw[Giv.d_add,Giv.d_mul,a,b];grind
theorem Qja{mv:Vec}{xs:Nat->Vec}{fr:Nat->Nat}{c:Nat}(P:Rat->Prop)(l:P 0):∀(k:Nat),(∀j,j<k->xs j c=unitV (fr j) c)->(∀i j,i<j->j<k->fr i≠fr j)->(∀j,j<k->P (mv j))->P (comboV mv xs k c)/\((∀j,j<k->fr j≠c)->comboV mv xs k c=0)
 |0,_,_,_=>⟨l,fun _=>rfl⟩
 |k+1,hx,hf,hm=>by
  obtain⟨n,m⟩:=Qja P l k (fun j a=>hx j (by omega)) (fun i j d a=>hf i j d (by omega)) (fun j a=>hm j (by omega));have e:comboV mv xs (k+1) c=comboV mv xs k c+mv k*unitV (fr k) c:=by
   show comboV mv xs k c+mv k*xs k c=_
   rw[hx k (by omega)]
  by_cases b:fr k=c
  .
   have o:=m (fun j a p=>hf j k a (by omega) (p.trans b.symm));have f:unitV (fr k) c=1:=by unfold unitV;rw[if_pos b.symm]
   rw[o,f] at e;refine⟨?_,fun h=>absurd b (h k (by omega))⟩;rw[e];have:=hm k (by omega);have g:(0:Rat)+mv k*1=mv k:=by grind
   rw[g];exact this
  .
   have f:unitV (fr k) c=0:=by unfold unitV;rw[if_neg (fun h=>b h.symm)]
   rw[f] at e;have g:comboV mv xs k c+mv k*0=comboV mv xs k c:=by grind
   rw[g] at e;rw[e];exact⟨n,fun h=>m (fun j a=>h j (by omega))⟩
theorem Qjb{W:Nat}{f:Nat}{M L S:List Vec}{a:Vy}(h:MJ W 20 f M W L S a){c:Nat}(g:c∈ freeTo a W):Null W M (nullF c (cln S a) a a.length)/\∀d,d ∉ a->nullF c (cln S a) a a.length d=unitV c d:=by
 obtain⟨e,b⟩:=h.1.done;obtain⟨k1,k2⟩:=Qco W e;obtain⟨c1,c2⟩:=freeTo_mem.1 g;refine⟨(b _).2 ((k2 _).1 (Qtr k1 c1 c2)),fun d i=>Qde k1.ech.len i _ lZ⟩
theorem Qqx{c:Vy}{W i j a b:Nat}(d:i<j)(f:(freeTo c W)[i]?=some a)(e:(freeTo c W)[j]?=some b):a≠b:=by
 have h:(freeTo c W).Nodup:=List.Nodup.sublist List.filter_sublist List.nodup_range;have g:=(gZ e).1;have k:=(List.pairwise_iff_getElem.1 h) i j (by omega) g d;rw[gE (by omega)] at f;rw[gE g] at e;rw[<-Option.some.inj f,<-Option.some.inj e];exact k
theorem Qjc(n:Nat)(r x:Vec):∀m,(∀c,n<=c->c<n+m->r c=0)->dot (n+m) r x=dot n r x
 |0,_=>rfl
 |m+1,h=>by
  show dot (n+m) r x+r (n+m)*x (n+m)=_
  rw[Qjc n r x m (fun c a b=>h c a (by omega)),h (n+m) (by omega) (by omega)];grind
theorem Qqy{nb nh:Nat}{vb:List (Nat × Nat × Rat × Rat)}{vh:Vy}{u:Vec}{r:Nat}(d:vb.length=nb)(e:vh.length=nh)(h:dot (nb+nh) (balM vb nb vh r) u=0)(a:freeW vh r=true):Giv.putF nb (balM vb nb vh) u r=0:=by
 unfold Giv.putF;rw[<-h];refine(Qjc nb _ _ nh (fun c f g=>?_)).symm;unfold balM;rw[List.getElem?_eq_none (by omega)];obtain⟨x,b⟩:∃x,vh[c - nb]?=some x:=⟨_,gE (by omega)⟩;simp only[b];rw[if_neg];rintro⟨_,rfl⟩;unfold freeW at a;have:=mO b;simp[this] at a
theorem Qjd{u c:Vec}:∀n,(∀i,i<n->0<c i)->0<=dot n u (fun i=>u i / c i)
 |0,_=>Rat.le_refl
 |n+1,h=>by
  have f:=Qjd (u:=u) n (fun i g=>h i (by omega));have j:0<=u n*(u n / c n):=by
   rw[Rat.div_def,<-Rat.mul_assoc];refine Rat.mul_nonneg ?_ (Rat.le_of_lt (Rat.inv_pos.2 (h n (by omega))));rcases Rat.le_total (a:=0) (b:=u n) with d|d
   . exact Rat.mul_nonneg d d
   .
    have e:0<= -(u n):=by grind
    have:=Rat.mul_nonneg e e;grind
  show 0<=dot n u (fun i=>u i / c i)+u n*(u n / c n)
  grind
theorem Qqz{b nb:Nat}{vb:List (Nat × Nat × Rat × Rat)}{vh:Vy}{cv a m u:Vec}(h:OneM b nb vb vh cv a m)(d:∀r,r<2*b->freeW vh r=true->Giv.putF nb (balM vb nb vh) u r=0)(f:∀i,i<nb->0<cv i):
 dot nb (fun i=>tM b nb vb vh cv m i+u i) (fun i=>(tM b nb vb vh cv m i+u i) / cv i)*(1 / 2)=dot nb (tM b nb vb vh cv m) (fun i=>tM b nb vb vh cv m i / cv i)*(1 / 2)+dot nb u (fun i=>u i / cv i)*(1 / 2):=by
 have g:=Giv.least (n:=nb) (B:=balM vb nb vh) (c:=cv) (m:=m) (u:=u) (fun w j k=>h.1.1 w j k) d (fun i l e=>by have:=f i l;rw[e] at this;exact absurd this (by decide));have o:(fun i=>(tM b nb vb vh cv m i+u i) / cv i)=fun i=>tM b nb vb vh cv m i / cv i+u i / cv i:=funext fun i=>by rw[Rat.div_def,Rat.div_def,Rat.div_def];grind
 have p:dot nb u (fun i=>tM b nb vb vh cv m i / cv i)=dot nb (tM b nb vb vh cv m) (fun i=>u i / cv i):=Qac _ _ _ _ _ (fun i _=>by rw[Rat.div_def,Rat.div_def];grind);rw[o,Giv.d_add,Qc6,Qc6,p,g];grind
theorem Qje:∀b:List B6,∃l:List (Rat × Nat),(∀p,p∈ l->Fits p.1 p.2)/\(l.map (·.2)).sum<=4*bW b+3*b.length/\∀s,s∈ b->∀x,QOf s.c.data.toList x->(1 / x)∈ l.map (·.1)
 | []=>⟨[],(fun p a=>by cases a),Nat.zero_le _,(fun s h=>by cases h)⟩
 |s :: js=>by
  obtain⟨l,i,k,j⟩:=Qje js;obtain⟨x,f⟩:=QOf.ex s.c.data.toList;have d:Fits (1:Rat) 1:=⟨by decide,by decide⟩;refine⟨(1 / x,1+(4*s.c.size+1)) :: l,fun p a=>?_,?_,fun t e u g=>?_⟩
  .
   rcases List.mem_cons.1 a with rfl|a
   . exact d.div (f.fits' lZ) (by decide) (by omega)
   . exact i p a
  . simp only[List.map_cons,List.sum_cons,bW,List.length_cons]
    omega
  .
   rcases List.mem_cons.1 e with rfl|e
   . rw[g.inj f]
     simp
   . exact List.mem_cons_of_mem _ (j t e u g)
theorem Qjf:∀l:Vt,∃d:List (Rat × Nat),(∀p,p∈ d->Fits p.1 p.2)/\(d.map (·.2)).sum=4*(l.map (·.size)).sum+l.length/\∀s,s∈ l->∀x,QOf s.data.toList x->x∈ d.map (·.1)
 | []=>⟨[],(fun p a=>by cases a),rfl,(fun s f=>by cases f)⟩
 |s :: js=>by
  obtain⟨l,g,h,i⟩:=Qjf js;obtain⟨x,c⟩:=QOf.ex s.data.toList;refine⟨(x,4*s.size+1) :: l,fun p a=>?_,?_,fun t b u e=>?_⟩
  .
   rcases List.mem_cons.1 a with rfl|a
   . exact c.fits' lZ
   . exact g p a
  . simp only[List.map_cons,List.sum_cons,h,List.length_cons]
    omega
  .
   rcases List.mem_cons.1 b with rfl|b
   . rw[e.inj c]
     simp
   . exact List.mem_cons_of_mem _ (i t b u e)
theorem Qq0(x y z al:Vx)(c1 c2 c3 cl:Nat)(n:List S2)(q:List B6)(r:List H3)(ls:List L3)(c at_:Int)(w:Vz)(hg:Glob w)(hf:FrRow w x y z c1 c2 c3 n q r)(hz:FrSized n q r)(f:FrameFault n q r c at_)(hc:c≠0):
 Calls prog 15 #[.agg #[.slice x n.length c1,.slice y q.length c2,.slice z r.length c3],.slice al ls.length cl] w fun e w'=>e=.returned (.tuple #[.agg #[.slice none 0 0,.slice none 0 0,.slice none 0 0],.agg #[.int .i64 c,.int .i64 at_]])/\Below w.heap.size w w':=by
 obtain⟨HG,HF,HZ,K,L⟩:=Id hg hf hz f hc;clear hg hf hz f hc;obtain⟨a,g⟩:=nm w.heap.size;obtain⟨s,d⟩:=nm (((w.alloc (.cells #[.slice x n.length c1,.slice y q.length c2,.slice z r.length c3] 26)).alloc (.cells #[.slice none 0 0,.slice none 0 0,.slice none 0 0] 47)).alloc (.cells #[.int .i64 0,.int .i64 0] 41));have b:O (Bl w s):=Hi (by rw[<-d];exact(Below.new2 w _ _).alloc (by simp;omega) _);have ab:O (SB s a 26 #[.slice x n.length c1,.slice y q.length c2,.slice z r.length c3]):=Hi (by rw[<-d,<-g];exact((SB.new w _ _).alloc _).alloc _);have B:O (SB s (a+1) 47 #[.slice none 0 0,.slice none 0 0,.slice none 0 0]):=Hi (by rw[<-d,<-g];exact(Qai w _ _ _).alloc _);have t:O (SB s (a+1+1) 41 #[.int .i64 0,.int .i64 0]):=Hi (by
  rw[<-d,<-g];have h:=Qai (w.alloc (.cells #[.slice x n.length c1,.slice y q.length c2,.slice z r.length c3] 26)) (.cells #[.slice none 0 0,.slice none 0 0,.slice none 0 0] 47) 41 #[.int .i64 0,.int .i64 0];rw[World.size_alloc] at h
  exact h)
 obtain⟨C,M⟩:=Ia d g;have i:w.heap.size<=a+1:=by omega
 clear d g;have N:=Hi (Qew x y z c1 c2 c3 n q r s (HG.o.below b.o) (HF.o.below b.o) HZ.o);go_enter func15,ntmps15;go_wp2_with fail;rw[C.o,M.o];clear C;go_fit N.o;rintro e P ⟨c',ad,rfl,f,D⟩;obtain⟨e1,e2⟩:=K.o.inj f;obtain rfl:=e1;obtain rfl:=e2;have u:=Hi D;clear f D;obtain⟨V,A⟩:=nm (P.alloc (.cells #[.int .i64 c,.int .i64 at_] 41));have l:Bl s V:=by rw[<-A];exact(u.o).alloc (u.o).size _
 obtain⟨E,F,G⟩:=Ib (B.o.below l B.o.lt) (t.o.below l t.o.lt) (b.o.trans (l.mono b.o.size));obtain⟨J,j⟩:=nm P.heap.size;have H:SB V J 41 #[.int .i64 c,.int .i64 at_]:=by rw[<-A,<-j];exact SB.new P _ _
 obtain⟨k0,k1,-⟩:=zc H;have Q:a+1+1<J:=by have:=t.o.lt;have:=(u.o).size;omega
 have R:J≠a+1:=by omega
 have S:J≠a+1+1:=by omega
 obtain⟨k,m⟩:=Ia (E.o.below (Below.refl V.heap.size V) E.o.lt) (F.o.below (Below.refl V.heap.size V) F.o.lt);obtain⟨y0,y1,y4,-⟩:=zc k.o;obtain⟨y2,y3,-⟩:=zc m.o;have T:=k.o.free 0;have U:=k.o.free 1;have W:=k.o.free 2;have X:=m.o.free 0;have Y:=m.o.free 1;obtain⟨Z,aa,ae⟩:=Ib (G.o.trans (((Below.refl V.heap.size V)).mono G.o.size)) A j;have e0:(c != 0)=true:=by simpa using L.o
 rw[<-A,<-j] at k0 k1;rw[<-A] at y0 y1 y4 y2 y3 T U W X Y;rw[<-j] at R S;clear A j H l Q;go_wp2;go_region
 all_goals
  go_wp2;rw[aa.o];have I:=Qc2 (x1:=.slice none 0 0) (x2:=.slice none 0 0) (x3:=.slice none 0 0) (y1:=.int .i64 c) (y2:=.int .i64 at_) (by omega:a+1≠a+1+1) k.o m.o;refine bodyPost_ret (Qbe rfl _ _ (a+1) (a+1+1) 47 41 #[.slice none 0 0,.slice none 0 0,.slice none 0 0] #[.int .i64 c,.int .i64 at_] (0,0) (0,0) _ _ rfl I.1 rfl I.2.1 underlying47 rfl Qc3 underlying41 rfl Tryz.faultInfo) rfl ?_;have v:=((((Z.o.setCell (p:=⟨a+1,0,none⟩) i (.slice none 0 0)).setCell (p:=⟨a+1,1,none⟩) i (.slice none 0 0)).setCell (p:=⟨a+1,2,none⟩) i (.slice none 0 0)).setCell (p:=⟨a+1+1,0,none⟩) (Nat.le_succ_of_le i) (.int .i64 c)).setCell (p:=⟨a+1+1,1,none⟩) (Nat.le_succ_of_le i) (.int .i64 at_);exact⟨rfl,v.drew⟩
theorem Qq1(y z A W:Vx)(c1 c2 c3 X:Nat)(g:List S2)(i:List B6)(j:List H3)(ls:List L3)(c at_:Int)(w:Vz)(hg:Glob w)(hf:FrRow w y z A c1 c2 c3 g i j)(hz:FrSized g i j)(C:FrameFault g i j 0 0)(hl:ARow L3.cells w W X ls)(Y:ls.length<=9223372036854775807)(k:LoadsFault g.length (i.length+j.length) ls c at_)(hc:c≠0):
 Calls prog 15 #[.agg #[.slice y g.length c1,.slice z i.length c2,.slice A j.length c3],.slice W ls.length X] w fun e w'=>e=.returned (.tuple #[.agg #[.slice none 0 0,.slice none 0 0,.slice none 0 0],.agg #[.int .i64 c,.int .i64 at_]])/\Below w.heap.size w w':=by
 obtain⟨HG,HF,HZ,Z,HL,aa,ab⟩:=If hg hf hz C hl k hc;have s:=C.few.1;have n1:=Nat.le_of_not_lt fun h=>s (.inr (.inl h))
 have n2:=Nat.le_of_not_lt fun h=>s (.inr (.inr (.inl h)))
 have n3:=Nat.le_of_not_lt fun h=>s (.inr (.inr (.inr h)))
 clear hg hf hz C hl k hc s;obtain⟨b,l⟩:=nm w.heap.size;obtain⟨t,f⟩:=nm (((w.alloc (.cells #[.slice y g.length c1,.slice z i.length c2,.slice A j.length c3] 26)).alloc (.cells #[.slice none 0 0,.slice none 0 0,.slice none 0 0] 47)).alloc (.cells #[.int .i64 0,.int .i64 0] 41));have a:O (Bl w t):=Hi (by rw[<-f];exact(Below.new2 w _ _).alloc (by simp;omega) _);have J:O (SB t b 26 #[.slice y g.length c1,.slice z i.length c2,.slice A j.length c3]):=Hi (by rw[<-f,<-l];exact((SB.new w _ _).alloc _).alloc _);have K:O (SB t (b+1) 47 #[.slice none 0 0,.slice none 0 0,.slice none 0 0]):=Hi (by rw[<-f,<-l];exact(Qai w _ _ _).alloc _);have D:O (SB t (b+1+1) 41 #[.int .i64 0,.int .i64 0]):=Hi (by
  rw[<-f,<-l];have h:=Qai (w.alloc (.cells #[.slice y g.length c1,.slice z i.length c2,.slice A j.length c3] 26)) (.cells #[.slice none 0 0,.slice none 0 0,.slice none 0 0] 47) 41 #[.int .i64 0,.int .i64 0];rw[World.size_alloc] at h
  exact h)
 obtain⟨L,ad⟩:=Ia f l;have m:w.heap.size<=b+1:=by omega
 clear f l;have ae:=Hi (Qb9 y z A c1 c2 c3 g i j t (HG.o.below a.o) (HF.o.below a.o) HZ.o Z.o);go_enter func15,ntmps15;go_wp2_with fail;rw[L.o,ad.o];clear L;go_fit ae.o;rintro e w1 ⟨rfl,E⟩;obtain⟨H,n⟩:=nm (w1.alloc (.cells #[.int .i64 0,.int .i64 0] 41));have d:Bl t H:=by rw[<-n];exact E.alloc E.size _
 have u:=Hi (J.o.below d J.o.lt);have x0:H.cell? ⟨b,0,none⟩=some (.slice y g.length c1):=by
  have h:=u.o.cell 0
  simpa using h
 have x1:H.cell? ⟨b,1,none⟩=some (.slice z i.length c2):=by
  have h:=u.o.cell 1
  simpa using h
 have x2:H.cell? ⟨b,2,none⟩=some (.slice A j.length c3):=by
  have h:=u.o.cell 2
  simpa using h
 have T:H.cell? ⟨w1.heap.size,0,none⟩=some (.int .i64 0):=by rw[<-n];exact(SB.new w1 _ _).cell 0
 rw[<-n] at x0 x1 x2 T;obtain⟨af,B⟩:=Ia (a.o.trans (d.mono a.o.size)) d;obtain⟨ag,ah⟩:=Ia (Qfa y z A W c1 c2 c3 X g.length i.length j.length ls H (HL.o.below af.o) n1 n2 n3 Y) n;clear n d E u;go_wp2_with fail;rw[ah.o];go_fit ag.o;rintro e w2 ⟨c',av,rfl,k,M⟩;obtain⟨e1,e2⟩:=aa.o.inj k;obtain rfl:=e1;obtain rfl:=e2;have F:=Hi (B.o.trans (M.mono B.o.size));clear k M x0 x1 x2 T;obtain⟨V,I⟩:=nm (w2.alloc (.cells #[.int .i64 c,.int .i64 at_] 41));have v:Bl t V:=by rw[<-I];exact(F.o).alloc (F.o).size _
 obtain⟨N,P,Q⟩:=Ib (K.o.below v K.o.lt) (D.o.below v D.o.lt) (a.o.trans (v.mono a.o.size));obtain⟨U,q⟩:=nm w2.heap.size;have R:SB V U 41 #[.int .i64 c,.int .i64 at_]:=by rw[<-I,<-q];exact SB.new w2 _ _
 obtain⟨T,k1,-⟩:=zc R;have ai:b+1+1<U:=by have:=D.o.lt;have:=(F.o).size;omega
 have aj:U≠b+1:=by omega
 have ak:U≠b+1+1:=by omega
 obtain⟨r,x⟩:=Ia (N.o.below (Below.refl V.heap.size V) N.o.lt) (P.o.below (Below.refl V.heap.size V) P.o.lt);obtain⟨y0,y1,y4,-⟩:=zc r.o;obtain⟨y2,y3,-⟩:=zc x.o;have am:=r.o.free 0;have an:=r.o.free 1;have ao:=r.o.free 2;have ap:=x.o.free 0;have aq:=x.o.free 1;obtain⟨ar,au,aw⟩:=Ib (Q.o.trans (((Below.refl V.heap.size V)).mono Q.o.size)) I q;have e0:(c != 0)=true:=by simpa using ab.o
 rw[<-I,<-q] at T k1;rw[<-I] at y0 y1 y4 y2 y3 am an ao ap aq;rw[<-q] at aj ak;clear I q R v ai;go_wp2;go_region
 all_goals
  go_wp2;rw[au.o];have S:=Qc2 (x1:=.slice none 0 0) (x2:=.slice none 0 0) (x3:=.slice none 0 0) (y1:=.int .i64 c) (y2:=.int .i64 at_) (by omega:b+1≠b+1+1) r.o x.o;refine bodyPost_ret (Qbe rfl _ _ (b+1) (b+1+1) 47 41 #[.slice none 0 0,.slice none 0 0,.slice none 0 0] #[.int .i64 c,.int .i64 at_] (0,0) (0,0) _ _ rfl S.1 rfl S.2.1 underlying47 rfl Qc3 underlying41 rfl Tryz.faultInfo) rfl ?_;have G:=((((ar.o.setCell (p:=⟨b+1,0,none⟩) m (.slice none 0 0)).setCell (p:=⟨b+1,1,none⟩) m (.slice none 0 0)).setCell (p:=⟨b+1,2,none⟩) m (.slice none 0 0)).setCell (p:=⟨b+1+1,0,none⟩) (Nat.le_succ_of_le m) (.int .i64 c)).setCell (p:=⟨b+1+1,1,none⟩) (Nat.le_succ_of_le m) (.int .i64 at_);exact⟨rfl,G.drew⟩
theorem Qq2(a:Vx)(S n K:Nat)(ls:Vt)(y:Nat->Rat)(w:Vz)(hg:Glob w)(h:CRow w a (textsV ls))(hy:∀(i:Nat) (s:Vs),ls[i]?=some s->QOf s.data.toList (y i)/\s.size<=1073741824/\Fits (y i) K)(hK:0<K)(hn:ls.length=n)(hl:n<=1000):
 Calls prog 24 #[.slice a n S] w fun e w'=>∃(v:Value) (p:List RT),e=.returned v/\PGrow w' w.heap.size v p/\p.length=n/\(∀(i:Nat) (t:RT),p[i]?=some t->t.2.1=y i/\t.2.2=K)/\Below w.heap.size w w':=by
 obtain⟨HH,HG,T,HN⟩:=Ic h hg hy hn;clear h hg hy hn;go_enter func24,ntmps24;go_wp2_with fail;go_loopw [3,8] (fun ov U wr=>∃(k:Nat) (p:List RT),k<=n/\U=.int .i64 k/\PGrow wr w.heap.size ov p/\p.length=k/\(∀(i:Nat) (t:RT),p[i]?=some t->t.2.1=y i/\t.2.2=K)/\Below w.heap.size w wr) (fun _ U _=>n - (intOf U).toNat)
 case atStart=>exact⟨0,[],Nat.zero_le _,rfl,PGrow.nil _ _,rfl,fun i t V=>by simp at V,Below.refl _ _⟩
 case round=>
  obtain⟨k,p,hk,rfl,x,D,E,F⟩:=hrel;obtain⟨oa,oc,W,_⟩:=x.row;obtain⟨G,d,H,f⟩:=Ic x D E F;subst W;clear x D E F;by_cases ab:k<n
  .
   obtain⟨s,X⟩:∃s,ls[k]?=some s:=⟨ls[k]'(by have:=HN.o;omega),gE _⟩;obtain⟨b,ad,rfl,hb,x0⟩:=(HH.o.below f.o).cell k (.string s) (by unfold textsV;rw[List.getElem?_map,X];rfl);have z:=Hi (T.o k s X);have q1:((k:Int)<(n:Int)):=by omega
   clear X;go_wp2_with fail;refine Makes.use (RF.of (HG.o.below f.o) z.o.1 z.o.2.1 z.o.2.2 hK) ?_;rintro _ C A ⟨Q,rfl,I,q,J⟩;have B:=Hi (f.o.trans (A.mono f.o.size));have r:=G.o.below A;obtain⟨Y,R⟩:=nm (C.alloc (.cells #[.pointer (some ⟨Q,0,none⟩)] 63));have g:Bl C Y:=by rw[<-R];exact(Below.refl _ _).alloc lZ _
   have L:SB Y C.heap.size 63 #[.pointer (some ⟨Q,0,none⟩)]:=by rw[<-R];exact SB.new C _ _
   obtain⟨v',w',M,N,O,_⟩:=(r.below g).app (us:=[(Q,y k,K)]) (nb:=C.heap.size) (c:=1) (m:=1) (fun t V=>by
    obtain rfl:=List.mem_singleton.1 V
    exact⟨I.below g,q,J⟩) rfl (fun j u hj=>by
    cases j with
    |zero=>cases hj;exact(L.cell 0).trans rfl
    |succ j=>simp at hj) (by have:=d.o;omega) (Nat.le_trans B.o.size g.size) 38
   rw[<-R] at M;obtain⟨Z,aa⟩:=Ia N ((B.o.trans (g.mono B.o.size)).trans O);clear A r R g L N O I q J x0;go_wp2;go_roundw
   case rel=>
    refine⟨k+1,p++ [(Q,y k,K)],by omega,by go_num,Z.o,by simp[d.o],fun i t' l=>?_,aa.o⟩;rcases Nat.lt_or_ge i k with hi|hi
    . rw[List.getElem?_append_left (by have:=d.o;omega)] at l
      exact H.o i t' l
    .
     have P:=(gZ l).1;rw[List.length_append,d.o] at P;obtain rfl:i=k:=by simp at P;omega
     rw[List.getElem?_append_right (by have:=d.o;omega),d.o,Nat.sub_self] at l;cases l;exact⟨rfl,rfl⟩
   case measure=>simp[intOf];omega
  .
   obtain rfl:k=n:=by omega
   go_wp2;go_ret;exact⟨_,p,rfl,G.o,d.o,H.o,f.o⟩
theorem PGrow.set{w:Vz}{B g a k n:Nat}{d:List RT}{t:RT}(h:PGrow w B (.slice (some ⟨g,0,none⟩) n a) d)(i:d.length=n)(hk:k<n)(l:RatVal w t.1 t.2.1/\Fits t.2.1 t.2.2/\0<t.2.2):PGrow (w.setCell ⟨g,k,none⟩ (ptrV t)) B (.slice (some ⟨g,0,none⟩) n a) (d.set k t)/\B<=g/\(∃C,SB w g 63 C)/\Fp w (w.setCell ⟨g,k,none⟩ (ptrV t)):=by
 obtain⟨C,hC,m⟩:=h.list.all g rfl;have e:IsPt (ptrV t):=⟨_,rfl⟩;have b:=Fp.of_only ((Only.refl g w).setCell k (ptrV t)) hC m;have hB:=(h.list.own.lt g rfl).1;refine⟨⟨?_,fun x f=>?_⟩,hB,⟨C,hC⟩,b⟩
 .
  have hl:=h.list;rw[i] at hl;have o:=Grow.set hl hk e;rw[List.length_set,List.map_set,i];exact o
 .
  have c:∀y:RT,(RatVal w y.1 y.2.1/\Fits y.2.1 y.2.2/\0<y.2.2)->(RatVal (w.setCell ⟨g,k,none⟩ (ptrV t)) y.1 y.2.1/\Fits y.2.1 y.2.2/\0<y.2.2):=fun y j=>⟨j.1.fp b,j.2⟩
  rcases List.mem_or_eq_of_mem_set f with f|rfl
  . exact c x (h.vs x f)
  . exact c _ l
theorem Qq3{nb Y a D b K:Nat}{u cv:Vec}(l:nb<=24)(f:0<Y)(y1:Y<=2 ^ a)(g:∀i,i<nb->Wh Y a (u i))(d0:0<D)(d1:D<=2 ^ b)(h:∀i,i<nb->Wh D b (1 / cv i))(m:2*a+b+8<=K):Fits (dot nb u (fun i=>u i / cv i)*(1 / 2)) K:=by
 have j:Wh (Y*(Y*D)) (a+(a+b)+5) (dot nb u (fun i=>u i / cv i)):=Qck (by omega) (fun i d=>by
  have e:u i*(u i / cv i)=u i*(u i*(1 / cv i)):=by rw[Rat.div_def,Rat.div_def];grind
  rw[e]
  exact(g i d).mul ((g i d).mul (h i d)))
 have k:=j.fits (Nat.mul_pos f (Nat.mul_pos f d0)) (by
  have c:=Nat.mul_le_mul y1 (Nat.mul_le_mul y1 d1);rw[<-Nat.pow_add,<-Nat.pow_add] at c
  exact Nat.le_trans c (Nat.pow_le_pow_right (by decide) (by omega)))
 have c:Fits (1 / 2:Rat) 2:=⟨by decide +kernel,by decide +kernel⟩;exact(k.mul c (by omega)).mono (by omega)
theorem Qq4{g:List S2}{a:List B6}{j:List H3}{vb:List (Nat × Nat × Rat × Rat)}{vh:Vy}{cv:Vec}(h:QN g a j vb vh cv)(c:FrameFault g a j 0 0):∀i,i<a.length->0<cv i:=fun i k=>by
 obtain⟨_,d,_,_⟩:=c.few;have m:=(h.ce i a[i] (gE k)).1;rcases d i a[i] (gE k) with ⟨_,h⟩|⟨_,_,_,_,_,_,p,q,r,s,l,t,u,_,_,_,_,n,_,_,b⟩
 . cases h
 .
  rw[m.inj n]
  split at b
  . cases b
  .
   split at b
   . cases b
   .
    rename_i o;have e:¬sgn3 l.num<=0:=fun h=>o (.inl h)
    have f:0<l.num:=by
     apply bC;intro v;apply e;unfold sgn3
     split
     . decide
     . split<;>omega
    rw[Rat.lt_iff]
    simpa using f
theorem Qq5{p q:Rat}(h:p<=q):cmpQ p q<=0:=by
 unfold cmpQ cmpZ
 split
 . decide
 .
  split
  . decide
  .
   rename_i b c;have a:q<p:=by rw[Rat.lt_iff];omega
   exact absurd a (Rat.not_lt.2 h)
theorem Qea{w:Vz}{b i:Nat}{t:Vr}{C:Vw}{v:Value}(h:SB w b t C)(c:C[i]?=some v):w.setCell ⟨b,i,none⟩ v=w:=by
 have hC:C.setIfInBounds i v=C:=by
  apply Array.ext_getElem?;intro j;rw[Array.getElem?_setIfInBounds]
  split
  . next e=>subst e;rw[c];split<;>simp_all
  . rfl
 have a:(w.setCell ⟨b,i,none⟩ v).heap=w.heap:=by
  apply Array.ext_getElem?;intro k;by_cases e:k=b
  .
   subst e;have:=h.set i v;rw[hC] at this;exact this.trans h.symm
  . exact Below.heap_setCell w ⟨b,i,none⟩ v k e
 cases w;simp only[World.setCell] at a ⊢;rw[a]
theorem Qjg{c:List S2}{b:List B6}{a:List H3}{vb:List (Nat × Nat × Rat × Rat)}{vh:Vy}{cv t:Vec}{KT:Nat}(n:QN c b a vb vh cv)(o:FrSized c b a)(f:FrameFault c b a 0 0){w:Vz}{g h j at_:Vx}{c1 c2 c3 ct:Nat}(p:Glob w)(q:FrRow w g h j c1 c2 c3 c b a){tb:Vt}(r:CRow w at_ (textsV tb))(k:TextsOf b.length t tb)(d:∀i,i<b.length->Fits (t i) KT)(u:0<KT)(x:KT<=500000000):
 Calls prog 19 #[.agg #[.slice g c.length c1,.slice h b.length c2,.slice j a.length c3],.slice at_ b.length ct] w (Makes w (fun v _=>∃s:Vs,v=.tuple #[.string s,.agg #[.int .i64 0,.int .i64 0]]/\QText s.data.toList (dot b.length t (fun i=>t i / cv i)*(1 / 2)))):=by
 refine(Qiw g h j at_ c1 c2 c3 ct (2*c.length) KT (KT+KT+4194305) c b a vb vh cv (fun _=>0) (fun _=>0) t tb w (n.givV p q) o f r k.1 (fun i s a=>?_) (1 / 2) qtext_half.back u rfl (by omega)).mono fun e w' ⟨⟨s,y,a⟩,z⟩=>⟨_,y,z,s,rfl,a⟩
 have l:=k.2 i s a;have m:=d i (by have:=(gZ a).1;have:=k.1;omega);exact⟨l.back,by have:=l.lenG m;omega,m⟩
def MaF(js:List S2)(bs:List B6)(hs:List H3)(ls:List L3)(vb:List (Nat × Nat × Rat × Rat))(vh:Vy)(cv a:Vec)(KM:Nat):Fact:=fun v w=>∃(p1 p2 p3:Vx) (n1 n2 n3:Nat) (cd at_:Int),v=.tuple #[.agg #[.slice p1 n1 n1,.slice p2 n2 n2,.slice p3 n3 n3],.agg #[.int .i64 cd,.int .i64 at_]]/\(cd=0->at_=0/\FrameFault js bs hs 0 0/\ls.length<=20/\(∀(i:Nat) (x:L3),ls[i]?=some x->IsJ js.length x.j)/\MovedOK js.length bs.length vb vh cv a KM p1 p2 n1 n2 w)
theorem FrameFault.some'(a:List S2)(b:List B6)(d:List H3)(h:¬FrameFault a b d 0 0){c x:Int}(f:FrameFault a b d c x):c≠0:=fun e=>by
 subst e;obtain rfl:=f.few.2.2.2;exact h f
theorem LoadsFault.ex(a m:Nat)(ls:List L3):∃c x,LoadsFault a m ls c x:=by
 by_cases d:20<ls.length
 . exact⟨_,_,.inl ⟨d,rfl,rfl⟩⟩
 .
  by_cases h:∃(k:Nat) (l:L3),ls[k]?=some l/\¬IsJ a l.j
  .
   obtain⟨n,e⟩:=h;obtain⟨k,⟨b,o,p⟩,q⟩:=Qf0 (P:=fun k=>∃b,ls[k]?=some b/\¬IsJ a b.j) n e;exact⟨_,_,.inr ⟨Nat.le_of_not_lt d,.inl ⟨k,b,o,fun i x r f=>bC fun g=>q i r ⟨x,f,g⟩,p,rfl,rfl⟩⟩⟩
  . exact⟨_,_,.inr ⟨Nat.le_of_not_lt d,.inr ⟨fun i x f=>bC fun g=>h ⟨i,x,f,g⟩,rfl,rfl⟩⟩⟩
section
variable {js:List S2} {bs:List B6} {hs:List H3} {vb:List (Nat × Nat × Rat × Rat)} {vh:Vy} {cv:Vec} {w:Vz} {a1 a2 a3 al:Vx} {c1 c2 c3 cl:Nat}
theorem Qq6{q:Nat}(s:FrameFault js bs hs 0 0->QN js bs hs vb vh cv)(l:FrSized js bs hs)(m:Glob w)(n:FrRow w a1 a2 a3 c1 c2 c3 js bs hs){ls:List L3}{vs:List (Nat × Rat × Rat)}(hl:ARow L3.cells w al cl ls)(o:ls.length<=9223372036854775807)(t:LVal ls vs)(u:FrameFault js bs hs 0 0->jW js+bW bs+hW hs+lW ls<=1048676)(p:q=184573702):
 Calls prog 15 #[.agg #[.slice a1 js.length c1,.slice a2 bs.length c2,.slice a3 hs.length c3],.slice al ls.length cl] w (Makes w (MaF js bs hs ls vb vh cv (agn vs) q)):=by
 by_cases a:FrameFault js bs hs 0 0
 .
  obtain⟨c,x,d⟩:=LoadsFault.ex js.length (bs.length+hs.length) ls;by_cases b:c=0
  .
   subst b;obtain⟨f,r,_⟩:=d.zero;refine(Qqs (s a) l a m n hl rfl f t r (u a) p).mono ?_;rintro e w' ⟨v,g,i,y,z,A,n1,B,C,D,rfl,E⟩;refine⟨_,g,i,y,z,A,n1,B,C,D,0,rfl,fun j=>⟨rfl,a,f,r,?_⟩⟩;rcases E with ⟨h,_⟩|⟨_,h⟩
   . exact absurd j h
   . exact h
  . exact(Qq1 a1 a2 a3 al c1 c2 c3 cl js bs hs ls c x w m n l a hl o d b).mono fun e w' ⟨g,i⟩=>⟨_,g,i,none,none,none,0,0,0,c,x,rfl,fun j=>absurd j b⟩
 .
  obtain⟨c,x,k⟩:=FrameFault.ex js bs hs;have b:=FrameFault.some' js bs hs a k;exact(Qq0 a1 a2 a3 al c1 c2 c3 cl js bs hs ls c x w m n l k b).mono fun e w' ⟨g,i⟩=>⟨_,g,i,none,none,none,0,0,0,c,x,rfl,fun j=>absurd j b⟩
def StF(js:List S2)(bs:List B6)(hs:List H3)(vb:List (Nat × Nat × Rat × Rat))(vh:Vy)(B b:Nat):Fact:=fun v w=>∃(sv:Value) (c at_:Int),v=.tuple #[sv,.agg #[.int .i64 c,.int .i64 at_]]/\(FrameFault js bs hs 0 0->c=0/\at_=0/\∃(L S:List Vec) (hh:Vy) (ps:List SP),MJ (bs.length+hs.length) 20 (kC b) (balRows js.length vb bs.length vh) (bs.length+hs.length) L S hh/\StrsAt w B bs.length hs.length sv ps ((freeTo hh (bs.length+hs.length)).map (fun c=>nullF c (cln S hh) hh hh.length)))
theorem Qq7{P b:Nat}(p:FrameFault js bs hs 0 0->QN js bs hs vb vh cv/\FrP P b vb)(m:FrSized js bs hs)(n:Glob w)(o:FrRow w a1 a2 a3 c1 c2 c3 js bs hs)(f:1000000<=b)(g:b<=16000000):
 Calls prog 38 #[.agg #[.slice a1 js.length c1,.slice a2 bs.length c2,.slice a3 hs.length c3]] w (Makes w (StF js bs hs vb vh w.heap.size b)):=by
 by_cases a:FrameFault js bs hs 0 0
 . obtain⟨i,q⟩:=p a
   exact(Qw8 a1 a2 a3 c1 c2 c3 P b js bs hs vb vh w n o m a i.fv q f g).mono fun e w' ⟨L,S,r,v,s,j,t,k,l⟩=>⟨_,j,l,v,0,0,rfl,fun _=>⟨rfl,rfl,L,S,r,s,t,k⟩⟩
 .
  obtain⟨c,x,d⟩:=FrameFault.ex js bs hs;have u:=FrameFault.some' js bs hs a d;exact(Qw9 a1 a2 a3 c1 c2 c3 js bs hs c x w n o m d u).mono fun e w' ⟨j,l⟩=>⟨_,j,l,_,c,x,rfl,fun h=>absurd h a⟩
end
theorem Qq8{js:List S2}{bs:List B6}{hs:List H3}{vb:List (Nat × Nat × Rat × Rat)}{vh:Vy}{P b K:Nat}{L S:List Vec}{a:Vy}(f:FrV 1048576 js bs hs vb vh)(g:FrP P b vb)(h:MJ (bs.length+hs.length) 20 (kC b) (balRows js.length vb bs.length vh) (bs.length+hs.length) L S a)(j:kC b=K)(c:Nat):∀i,Fits (nullF c (cln S a) a a.length i) K:=fun i=>by
 obtain⟨_,_,e⟩:=g.rows f;obtain⟨⟨d,_⟩,_,k⟩:=e L S a h;obtain⟨k1,_⟩:=Qco (bs.length+hs.length) d;rw[<-j];have l:∀q:Rat,Fits q (kC b)->Fits (-q) (kC b):=fun q h=>⟨by rw[Rat.neg_num,Int.natAbs_neg];exact h.1,by rw[Rat.neg_den];exact h.2⟩
 refine Qku (fun q=>Fits q (kC b)) (Fits.zero.mono (by simp only[kC];omega)) ?_ (fun r m=>l _ (k r m c)) k1.ech.len a.length lZ i;have n:Fits (1:Rat) 1:=⟨by decide,by decide⟩;exact n.mono (by simp only[kC];omega)
theorem Qjh{js:List S2}{bs:List B6}{hs:List H3}{vb:List (Nat × Nat × Rat × Rat)}{vh:Vy}{P b k:Nat}{L S:List Vec}{a:Vy}{mv:Vec}(c:FrV 1048576 js bs hs vb vh)(h:MJ (bs.length+hs.length) 20 (kC b) (balRows js.length vb bs.length vh) (bs.length+hs.length) L S a)(hk:k<=(freeTo a (bs.length+hs.length)).length):
 Null (bs.length+hs.length) (balRows js.length vb bs.length vh) (comboV mv (fun j=>nullF ((freeTo a (bs.length+hs.length)).getD j 0) (cln S a) a a.length) k)/\∀r,r<2*js.length->freeW vh r=true->Giv.putF bs.length (balM vb bs.length vh) (comboV mv (fun j=>nullF ((freeTo a (bs.length+hs.length)).getD j 0) (cln S a) a a.length) k) r=0:=by
 have d:=Qi9 (mv:=mv) (xs:=fun j=>nullF ((freeTo a (bs.length+hs.length)).getD j 0) (cln S a) a a.length) (M:=balRows js.length vb bs.length vh) k (fun j g=>(Qjb h (by rw[List.getD_eq_getElem?_getD,gE (by omega)];exact List.getElem_mem _)).1);exact⟨d,fun r e f=>Qqy c.lb c.lh (d _ (List.mem_map.2 ⟨r,List.mem_range.2 e,rfl⟩)) f⟩
theorem Qq9{js:List S2}{bs:List B6}{hs:List H3}{vb:List (Nat × Nat × Rat × Rat)}{vh:Vy}{P b k f d e E:Nat}{L S:List Vec}{a:Vy}{mv:Vec}(g:FrV 1048576 js bs hs vb vh)(l:FrP P b vb)(h:MJ (bs.length+hs.length) 20 (kC b) (balRows js.length vb bs.length vh) (bs.length+hs.length) L S a)(hk:k<=(freeTo a (bs.length+hs.length)).length)(q:0<f)(m:f<=2 ^ d)(s:∀j,j<k->Wh f d (mv j))(t:e=b+d+7)(u:E=20*(e+6)):
 ∃Y,0<Y/\Y<=2 ^ (E+d)/\∀c,c<bs.length+hs.length->Wh Y (E+d) (comboV mv (fun j=>nullF ((freeTo a (bs.length+hs.length)).getD j 0) (cln S a) a a.length) k c):=by
 have p:=g.j;have y:=g.b;have v:=g.h;refine Qqw l.pos q l.le m (fun r x j=>?_) (by omega) h (by simp only[balRows,List.length_map,List.length_range];omega) (Qjh g h hk (P:=P)).1 (fun c z n=>?_) t u
 . obtain⟨i,_,rfl⟩:=List.mem_map.1 x
   exact l.at _ _
 .
  refine(Qja (fr:=fun j=>(freeTo a (bs.length+hs.length)).getD j 0) (Wh f d) (Wh.zero _ _) k (fun j p=>?_) (fun i j o p=>?_) s).1
  . exact(Qjb h (by rw[List.getD_eq_getElem?_getD,gE (by omega)];exact List.getElem_mem _)).2 c n
  .
   show (freeTo a (bs.length+hs.length)).getD i 0≠(freeTo a (bs.length+hs.length)).getD j 0
   rw[List.getD_eq_getElem?_getD,List.getD_eq_getElem?_getD,gE (by omega),gE (by omega)];exact Qqx o (gE (by omega)) (gE (by omega))
theorem Qra{js:List S2}{bs:List B6}{hs:List H3}{vb:List (Nat × Nat × Rat × Rat)}{vh:Vy}{cv T0 mv:Vec}{P b C k:Nat}{L S:List Vec}{c:Vy}{a:Vt}(o:QN js bs hs vb vh cv)(J:FrP P b vb)(h:MJ (bs.length+hs.length) 20 (kC b) (balRows js.length vb bs.length vh) (bs.length+hs.length) L S c)(hk:k<=(freeTo c (bs.length+hs.length)).length)(K:k<=a.length)(M:∀(j:Nat) (s:Vs),a[j]?=some s->QOf s.data.toList (mv j))(N:(a.map (·.size)).sum<=1048576)(Z:bW bs<=1048676)(hb:b=8388678)(O:C=184573702)(v:∀i,i<bs.length->Fits (T0 i) C){xs:Nat->Vec}(y:xs=fun j=>nullF ((freeTo c (bs.length+hs.length)).getD j 0) (cln S c) c c.length):
 (∀r,r<2*js.length->freeW vh r=true->Giv.putF bs.length (balM vb bs.length vh) (comboV mv xs k) r=0)/\(∀i,i<bs.length->Fits (T0 i+comboV mv xs k i) 440428832)/\Fits (dot bs.length (comboV mv xs k) (fun i=>comboV mv xs k i / cv i)*(1 / 2)) 515905050:=by
 subst y;have Q:=o.fv.b;have n3:=o.fv.h;have D:k<=44:=by have:=Qem c (bs.length+hs.length);omega
 obtain⟨d,d1,d2,d3⟩:=Qjf (a.take 44);obtain⟨l,F,l2,R⟩:=Qje bs;obtain⟨p,f⟩:=nm ((d.map (·.2)).sum);obtain⟨G,g⟩:=nm ((l.map (·.2)).sum);have H:p<=4194348:=by
  have t:((a.take 44).map (·.size)).sum<=(a.map (·.size)).sum:=by
   rw[List.map_take];have T:∀(n:Nat) (l:Vy),(l.take n).sum<=l.sum:=fun n l=>by
    induction l generalizing n with
    |nil=>simp
    |cons x l U=>
     cases n with
     |zero=>simp
     |succ n=>
      have:=U n;simp only[List.take_succ_cons,List.sum_cons];omega
   exact T 44 _
  have m:(a.take 44).length<=44:=by rw[List.length_take];omega
  rw[<-f,d2];omega
 have I:G<=4194776:=by rw[<-g];omega
 have hW:∀j,j<k->Wh (denP (d.map (·.1))) p (mv j):=fun j hj=>by
  have q:j<a.length:=by omega
  have t:=d3 a[j] (by
   have:(a.take 44)[j]?=some a[j]:=by rw[List.getElem?_take_of_lt (by omega)];exact gE q
   exact mO this) (mv j) (M j _ (gE q))
  have m:=Wh.of_sum d1 t;rw[f] at m;exact m
 have V:=fun i u=>by
  have t:=R bs[i] (List.getElem_mem _) (cv i) (o.ce i _ (gE u)).1;have m:=Wh.of_sum F t;rw[g] at m;exact m
 have z:denP (d.map (·.1))<=2 ^ p:=by rw[<-f];exact Qbu d d1
 have A:denP (l.map (·.1))<=2 ^ G:=by rw[<-g];exact Qbu l F
 obtain⟨e,W⟩:∃e,e=b+p+7:=⟨_,rfl⟩;obtain⟨E,X⟩:∃E,E=20*(e+6):=⟨_,rfl⟩;obtain⟨Y,y1,y2,y3⟩:=Qq9 o.fv J h hk (Qcd _) z hW W X;obtain⟨EE,B⟩:=nm (E+p);rw[B] at y2 y3;refine⟨(Qjh o.fv h hk (P:=P)).2,fun i u=>?_,?_⟩
 . exact((v i u).add ((y3 i (by omega)).fits y1 y2)).mono (by omega)
 . exact Qq3 Q y1 y2 (fun i u=>y3 i (by omega)) (Qcd _) A V (by omega)
def TsF(n:Nat)(t:Vec):Fact:=fun v w=>∃(a:Vx) (c:Nat) (ss:Vt),v=.slice a n c/\CRow w a (textsV ss)/\TextsOf n t ss
theorem TsF.stays(n:Nat)(t:Vec):Stays (TsF n t):=fun _ _ _ b ⟨a,c,d,e,f,g⟩=>⟨a,c,d,e,f.below b,g⟩
def EnF(q:Rat):Fact:=fun v _=>∃s:Vs,v=.tuple #[.string s,.agg #[.int .i64 0,.int .i64 0]]/\QText s.data.toList q
theorem EnF.stays(q:Rat):Stays (EnF q):=fun _ _ _ _ h=>h
theorem Qrb{w:Vz}{a:Vx}{c n K:Nat}{d:List RT}{t:Vec}(m:Glob w)(h:PRow w a d)(hk:∀(i:Nat) (x:RT),d[i]?=some x->x.2.1=t i/\x.2.2<=K)(o:K<274877906000)(p:d.length=n)(hl:n<=1000):Calls prog 39 #[.slice a n c] w (Makes w (TsF n t)):=by
 refine(Qx2 a c n K d w m.most h (fun x q=>?_) o p hl).mono fun e w' ⟨v,r,u,k,f,b,y⟩=>?_
 . obtain⟨i,j⟩:=List.getElem?_of_mem q
   exact(hk i x j).2
 .
  obtain⟨z,A,l,_,B,_⟩:=Grow.slice k;rw[f] at l;refine⟨v,u,y,z,A,r,l,B,f,fun i s j=>?_⟩;have g:i<d.length:=by have:=(gZ j).1;omega
  rw[<-(hk i _ (gE g)).1];exact b i _ s (gE g) j
theorem Qji:∀{l:Vy} {a:Nat},a∈ l->a<=l.sum
 |x :: l,a,h=>by
  rcases List.mem_cons.1 h with rfl|h
  . simp
  .
   have:=Qji h;simp only[List.sum_cons];omega
theorem PRow.rfL{w:Vz}{a:Vx}{b:List RT}(h:PRow w a b){t:RT}(c:t∈ b){K:Nat}{q:Rat}(d:t.2.2=K)(e:t.2.1=q):RF q K (.pointer (some ⟨t.1,0,none⟩)) w:=by
 subst d e;obtain⟨f,g,i⟩:=h.vs t c;exact⟨t.1,rfl,f,g,i⟩
theorem Qrc(a1 a2 a3 al am:Vx)(c1 c2 c3 cl cm:Nat)(n:List S2)(bs:List B6)(hs:List H3)(ls:List L3)(mo:Vt)(vs:List (Nat × Rat × Rat))(w:Vz)(hg:Glob w)(hf:FrRow w a1 a2 a3 c1 c2 c3 n bs hs)(hz:FrSized n bs hs)(hl:ARow L3.cells w al cl ls)(hv:LVal ls vs)(hm:CRow w am (textsV mo))(fg:(mo.map (·.size)).sum<=1048576)
 (n2:bs.length<=1048576) (n3:hs.length<=1048576) (og:ls.length<=1048576) (oh:mo.length<=1048576) (hT:jW n+bW bs+lW ls<=1048576):
 Calls prog 5 #[.agg #[.slice a1 n.length c1,.slice a2 bs.length c2,.slice a3 hs.length c3],.slice al ls.length cl,.slice am mo.length cm] w fun e w'=>e=.returned (.bool true)/\Below w.heap.size w w':=by
 obtain⟨HG,HF,HL,HV,HM,fh,HZ,HT⟩:=Ig hg hf hl hv hm fg hz hT;clear hg hf hl hv hm fg hz hT;obtain⟨z,dg⟩:=nm w.heap.size;obtain⟨V,hV⟩:=nm (w.alloc (.cells #[.slice a1 n.length c1,.slice a2 bs.length c2,.slice a3 hs.length c3] 26));have b6:=Ua hV;have dh:=Uf hV dg;obtain⟨fi,fj,j2⟩:=Ib (Qqr V (HG.o.below b6.o)) hV dg;have j3:w.heap.size<=z:=by omega
 clear hV dg;go_enter func5,ntmps5;go_wp2_with fail;rw[fj.o,j2.o];go_fit fi.o;rintro e w0 ⟨rfl,di⟩;have af:=Hi (b6.o.trans (di.mono b6.o.size));have ax:=Hi (dh.o.below di dh.o.lt);have fk:=Hi (Qnh w0 (HG.o.below af.o));clear di;go_wp2_with fail;go_fit fk.o;rintro e w1 ⟨rfl,dj⟩;obtain⟨ak,an⟩:=Ia (af.o.trans (dj.mono af.o.size)) (ax.o.below dj ax.o.lt);have x0:w1.cell? ⟨z,0,none⟩=some (.slice a1 n.length c1):=by
  have h:=an.o.cell 0
  simpa using h
 have x1:w1.cell? ⟨z,1,none⟩=some (.slice a2 bs.length c2):=by
  have h:=an.o.cell 1
  simpa using h
 have x2:w1.cell? ⟨z,2,none⟩=some (.slice a3 hs.length c3):=by
  have h:=an.o.cell 2
  simpa using h
 have HQ:=Hi (Qqg a1 a2 a3 c1 c2 c3 n bs hs w1 (HF.o.below ak.o) n2 n3);clear dj fj fi b6 dh fk af ax;go_wp2_with fail;refine Makes.use HQ.o ?_;rintro _ w2 dk ⟨b2,b3,d2,d3,rfl,dl,dm⟩;clear x0 x1 x2 HQ;obtain⟨d,b7⟩:=nm (bs.map qBar);obtain⟨r,b8⟩:=nm (hs.map qHold);rw[b7] at dl ⊢;rw[b8] at dm ⊢;have D:=an.o.below dk an.o.lt;have y0:w2.cell? ⟨z,0,none⟩=some (.slice a1 n.length c1):=by
  have h:=D.cell 0
  simpa using h
 have y1:w2.cell? ⟨z,1,none⟩=some (.slice a2 bs.length c2):=by
  have h:=D.cell 1
  simpa using h
 have y2:w2.cell? ⟨z,2,none⟩=some (.slice a3 hs.length c3):=by
  have h:=D.cell 2
  simpa using h
 have f0:=D.free 0;have f1:=D.free 1;have f2:=D.free 2;have ay:=(((Only.refl z w2).setCell 0 (.slice a1 n.length c1)).setCell 1 (.slice b2 d.length d2)).setCell 2 (.slice b3 r.length d3);have f:=((D.set 0 (.slice a1 n.length c1)).set 1 (.slice b2 d.length d2)).set 2 (.slice b3 r.length d3);simp only[List.setIfInBounds_toArray,List.set_cons_zero,List.set_cons_succ] at f;obtain⟨U2,dn⟩:=nm (((w2.setCell ⟨z,0,none⟩ (.slice a1 n.length c1)).setCell ⟨z,1,none⟩ (.slice b2 d.length d2)).setCell ⟨z,2,none⟩ (.slice b3 r.length d3));rw[dn] at ay f;have ao:O (BK w z a1 c1 n.length b2 b3 d2 d3 d r [] [] U2):=Hi ⟨Only.fresh (ak.o.trans (dk.mono ak.o.size)) ay j3,f,(dl.mono ak.o.size).only ay D (by decide),(dm.mono ak.o.size).only ay D (by decide),(fun x hx=>by cases hx),(fun x hx=>by cases hx)⟩;obtain⟨b9,cb⟩:=Ia b7 b8
 have cc:O (FrSized n d r):=Hi (by rw[<-b7,<-b8];exact Qd9 HZ.o);have dp:=Hi dn;obtain⟨vb,vh,cv,y⟩:∃vb vh cv,FrameFault n d r 0 0->QN n d r vb vh cv:=by
  by_cases h:FrameFault n d r 0 0
  .
   have F:=h;rw[<-b9.o,<-cb.o] at F;obtain⟨vb,vh,cv,az⟩:=Qqt HZ.o F;rw[b9.o,cb.o] at az;exact⟨vb,vh,cv,fun _=>az⟩
  . exact⟨[],[],fun _=>0,fun h'=>absurd h' h⟩
 have dq:=Hi y;have dr:O (FrameFault n d r 0 0->jW n+bW d+hW r+lW ls<=1048676):=Hi (fun h=>by
  have az:=y h;have F:=Qi7 bs;have U:=Qi8 hs;have h3:=HT.o;have e1:bs.length=d.length:=by rw[<-b9.o,List.length_map]
  have e2:hs.length=r.length:=by rw[<-cb.o,List.length_map]
  have n1:=az.fv.b;have n2:=az.fv.h;rw[b9.o] at F;rw[cb.o] at U
  omega)
 obtain⟨G,ds⟩:∃G,G=184573702:=⟨_,rfl⟩;obtain⟨bb,dt⟩:∃bb,bb=8388678:=⟨_,rfl⟩;obtain⟨P,cf⟩:∃P,FrameFault n d r 0 0->FrP P bb vb:=by
  by_cases h:FrameFault n d r 0 0
  . obtain⟨P,hp⟩:=(y h).fv.overL (T:=1048576) (ls:=[]) (vs:=[]) (by decide) rfl (fun i l p hl=>by simp at hl) (by simp only[lW];have:=HT.o;omega)
    exact⟨P,fun _=>by rw[dt];exact hp.toFrP⟩
  . exact⟨0,fun h'=>absurd h' h⟩
 obtain⟨fl,A,cg,fm⟩:=Ic cf ds dt (Qq6 dq.o cc.o (HG.o.below ao.o.base) (ao.o.frow HF.o.j) (HL.o.below ao.o.base) (by omega) HV.o dr.o ds);clear dk dl dm b7 b8 D ay f dn an ak y ds cf dt;have f:=ao.o.box;have x0:U2.cell? ⟨z,0,none⟩=some (.slice a1 n.length c1):=by
  have h:=f.cell 0
  simpa using h
 have x1:U2.cell? ⟨z,1,none⟩=some (.slice b2 d.length d2):=by
  have h:=f.cell 1
  simpa using h
 have x2:U2.cell? ⟨z,2,none⟩=some (.slice b3 r.length d3):=by
  have h:=f.cell 2
  simpa using h
 clear f;rw[<-dp.o] at x0 x1 x2;go_wp2_with fail;rw[dp.o];refine Makes.use fm.o ?_;rintro _ w4 du ⟨dv,dw,dx,m1,m2,m3,cd,at_,rfl,a4⟩;clear x0 x1 x2 y0 y1 y2 f0 f1 f2 fm;obtain⟨M,ch⟩:=nm w4.heap.size;obtain⟨U4,a5⟩:=nm ((w4.alloc (.cells #[.slice dv m1 m1,.slice dw m2 m2,.slice dx m3 m3] 47)).alloc (.cells #[.int .i64 cd,.int .i64 at_] 41));have dy:Bl w4 U4:=by rw[<-a5];exact Below.new2 w4 _ _
 have a6:SB U4 M 47 #[.slice dv m1 m1,.slice dw m2 m2,.slice dx m3 m3]:=by rw[<-a5,<-ch];exact(SB.new w4 _ _).alloc _
 have dz:O (SB U4 (M+1) 41 #[.int .i64 cd,.int .i64 at_]):=Hi (by rw[<-a5,<-ch];exact Qai w4 _ _ _);have a7:=Hi ((ao.o.below (du.trans (dy.mono du.size))).addX a6 (by decide));have fn:=Hi (show cd=0->at_=0/\FrameFault n d r 0 0/\ls.length<=20/\(∀(i:Nat) (x:L3),ls[i]?=some x->IsJ n.length x.j)/\MovedOK n.length d.length vb vh cv (agn vs) G dv dw m1 m2 U4 from fun h=>by
  obtain⟨k1,k2,k3,k4,k5⟩:=a4 h
  exact⟨k1,k2,k3,k4,k5.below dy⟩)
 obtain⟨a8,fo,j4⟩:=Ib (Qq7 (vb:=vb) (vh:=vh) (cv:=cv) (P:=P) (b:=bb) (fun h=>⟨dq.o h,fl.o h⟩) cc.o (HG.o.below a7.o.base) (a7.o.frow HF.o.j) (by have:=cg.o;omega) (by have:=cg.o;omega)) a5 ch;have f:=a7.o.box;have x0:U4.cell? ⟨z,0,none⟩=some (.slice a1 n.length c1):=by
  have h:=f.cell 0
  simpa using h
 have x1:U4.cell? ⟨z,1,none⟩=some (.slice b2 d.length d2):=by
  have h:=f.cell 1
  simpa using h
 have x2:U4.cell? ⟨z,2,none⟩=some (.slice b3 r.length d3):=by
  have h:=f.cell 2
  simpa using h
 clear f;rw[<-fo.o] at x0 x1 x2;clear a5 ch dy a6 du a4 ao dp;go_wp2_with fail;rw[fo.o];simp only[j4.o];refine Makes.use a8.o ?_;rintro _ w5 ea ⟨sv,ce,ae,rfl,fp⟩;clear x0 x1 x2 a8;obtain⟨H,eb⟩:=nm w5.heap.size;obtain⟨W,a9⟩:=nm (w5.alloc (.cells #[.int .i64 ce,.int .i64 ae] 41));have ec:Bl w5 W:=by rw[<-a9];exact(Below.refl _ _).alloc lZ _
 have ci:=ea.trans (ec.mono ea.size);obtain⟨ap,ba⟩:=Ia (a7.o.below ci) (dz.o.below ci dz.o.lt);have bc:=Uf a9 eb;obtain⟨a8,j5,j6⟩:=Ib fp ci ec;obtain⟨z0,-⟩:=zc ba.o;obtain⟨ed,ee⟩:=Ia a9 eb;rw[<-a9] at z0;clear fp a9 eb ec ci ea dz a7;by_cases fq:cd=0
 .
  subst fq;obtain⟨rfl,aa,j7,fr,j8⟩:=fn.o rfl;obtain⟨rfl,rfl,L,S,hh,ps,fs,ft⟩:=a8.o aa;obtain⟨e1,e2,gx,ab,sx,fu,mx,j9,ka,kb,kc,kd,ef,cj,bd,fw⟩:=j8;subst e1 e2 j9 ka;have y:=dq.o aa;have nj:=y.fv.j;have nb:=y.fv.b;have nh:=y.fv.h;obtain⟨ck,eg,fx,fy,fz,ga⟩:=Ie y aa (fl.o aa) fs bd (Qq4 y aa);obtain⟨T0,eh⟩:=nm (tM n.length d.length vb vh cv mx);obtain⟨be,bf⟩:(∀i,i<d.length->Fits (tM n.length d.length vb vh cv mx i) G)/\Fits (dot d.length (tM n.length d.length vb vh cv mx) (fun i=>tM n.length d.length vb vh cv mx i / cv i)*(1 / 2)) G:=by
   obtain⟨P',b,Q,c,ke,he⟩:=y.over j7 HV.o fr (dr.o aa);exact Qqu (E:=8389708) (by have:=A.o;omega) ke y.fv he bd y.pos
  rw[eh] at cj be bf;obtain⟨bh,bi,gb,kf,ag,cn⟩:=Ie cj be bf eh (ef.below j5.o ef.lt) (ft.below j6.o);have ei:SB W M 47 #[.slice (some ⟨gx,0,none⟩) n.length n.length,.slice (some ⟨ab,0,none⟩) d.length d.length,.slice dx m3 m3]:=(ap.o.xs (M,47,_) (by simp)).1;obtain⟨z1,-⟩:=zc bc.o;have z2:W.cell? ⟨M,1,none⟩=some (.slice (some ⟨ab,0,none⟩) d.length d.length):=by
   have h:=ei.cell 1
   simpa using h
  have gc:=Hi ei;have gd:=Hi (Qq2 (some ⟨ab,0,none⟩) d.length d.length G fu T0 W (HG.o.below ap.o.base) ⟨fun j u hj=>⟨ab,0,rfl,ag.o.lt,by rw[Nat.zero_add,ag.o.cell];simpa using hj⟩⟩ (fun i s hi=>by
   have F:=bh.o.2 i s hi;have U:=bi.o i (by have:=(gZ hi).1;have:=bh.o.1;omega)
   exact⟨F.back,by have:=F.lenG U;have:=A.o;omega,U⟩) (by have:=A.o;omega) cj.1 (by omega))
  have f:=ap.o.box;have x0:W.cell? ⟨z,0,none⟩=some (.slice a1 n.length c1):=by
   have h:=f.cell 0
   simpa using h
  have x1:W.cell? ⟨z,1,none⟩=some (.slice b2 d.length d2):=by
   have h:=f.cell 1
   simpa using h
  have x2:W.cell? ⟨z,2,none⟩=some (.slice b3 r.length d3):=by
   have h:=f.cell 2
   simpa using h
  clear f;rw[<-ed.o] at x0 x1 x2 z1 z2;rw[<-ee.o] at z1;clear aa fr fs bd eh be bf cj ef kc ft ei y kb kd fw fn a8;go_wp2_with fail;rw[ed.o];go_fit gd.o;rintro e w6 ⟨v6,kg,rfl,I,J,Z,ge⟩;clear x0 x1 x2 z0 z1 z2 gd;obtain⟨at_,ct,gf,_⟩:=I.row;rw[J] at gf;subst gf;obtain⟨kh,ki,kj,kl⟩:=Ic I J Z ge;obtain⟨sa,sc,km,gg⟩:∃sa sc,sv=.slice sa ps.length sc/\CRow W sa (ps.flatMap (SP.cells d.length r.length)):=by
   obtain⟨a,c,e,_,hr,_⟩:=Grow.slice cn.o.list;exact⟨a,c,e,hr⟩
  subst km;have gh:=Hi gg;clear I J Z ge gg;go_wp2_with fail;rename_i K0 gj;obtain⟨xs,gk⟩:∃xs:Nat->Vec,xs=fun j=>nullF ((freeTo hh (d.length+r.length)).getD j 0) (cln S hh) hh hh.length:=⟨_,rfl⟩
  obtain⟨mv,a4⟩:∃mv:Vec,∀(j:Nat) (s:Vs),mo[j]?=some s->QOf s.data.toList (mv j):=by
   have ex:∀j:Nat,∃q:Rat,∀s,mo[j]?=some s->QOf s.data.toList q:=fun j=>by
    cases hj:mo[j]? with
    |none=>exact⟨0,fun s h=>by cases h⟩
    |some s=>
     obtain⟨q,r⟩:=QOf.ex s.data.toList;exact⟨q,fun s' h=>by cases h;exact r⟩
   exact Classical.axiomOfChoice ex
  obtain⟨B,gl⟩:∃B,B=188745348:=⟨_,rfl⟩;obtain⟨ej,gm,gn⟩:=Ib gk a4 gl;have gp:ps.length=(freeTo hh (d.length+r.length)).length:=by rw[cn.o.len,List.length_map]
  have kn:ps.length<=44:=by have:=Qem hh (d.length+r.length);omega
  have ek:=Hi gp;clear gk a4 gl gp
  have bj:=Hi (show ∀(s0 s1 s2 s4 s5 s6 s9 ko kp kq kr ks kt ku kv kw kx ky kz k6 k7 k8 k9 la lb lc ld le lf lg lh li lj lk ll lm ln lo lp lq lr lu lv lw lx ly lz l0 l2 l3 l4 l5 l6 l7 l8 l9 ma mc md me mg mh mi mj mk ml mm mn mp mq mr ms mu mw my mz m0 m4 m5 m6 m7 m8 m9 na nc nd ne nf ng ni nk nl nn np nq gq gr gs gu gv gw gy gz g0 g3 g4 g5 g6 g7 ha hc hd hk hn ho hu hw hy h6 ia ib ic ie ig ih ii ij ik:Value) (wc:Vz) (kk:Nat) (ts:List RT),kk<=ps.length->kk<=mo.length->Below W.heap.size W wc->PGrow wc W.heap.size (.slice at_ d.length ct) ts->ts.length=d.length->(∀(i:Nat) (t:RT),ts[i]?=some t->t.2.1=T0 i+comboV mv xs kk i/\t.2.2=G+kk*B)->K0 ⟨#[s0,s1,s2,.pointer (some ⟨z,0,none⟩),s4,s5,s6,.pointer (some ⟨M,0,none⟩),.pointer (some ⟨M+1,0,none⟩),s9,.pointer (some ⟨H,0,none⟩),.slice at_ d.length ct,ko,kp,kq,kr,ks,kt,ku,kv,kw,kx,ky,kz,k6,k7,k8,k9,la,lb,lc,ld,le,lf,lg,lh,li,lj,lk,ll,lm,ln,lo,lp,lq,lr,lu,lv,lw,lx,ly,lz,l0,l2,l3,l4,l5,l6,l7,l8,l9,ma,mc,md,me,mg,mh,mi,mj,mk,ml,mm,mn,mp,mq,mr,ms,mu,mw,my,mz,m0,m4,m5,m6,m7,m8,m9,na,nc,nd,ne,nf,ng,ni,nk,nl,nn,np,nq,gq,gr,gs,gu,gv,gw,gy,gz,g0,g3,g4,g5,g6,g7,ha,hc,hd,hk,hn,ho,hu,hw,hy,h6,ia,ib,ic,ie,ig,ih,ii,ij,ik],[]⟩ wc from by
   iterate 128 intro _
   intro wc kk ts cp cq aq I J Z;obtain⟨cr,il,im,io,ah,cz⟩:=Ie (ap.o.below aq) I J Z (ba.o.below aq ba.o.lt) (bc.o.below aq bc.o.lt);have z2:wc.cell? ⟨M,1,none⟩=some (.slice (some ⟨ab,0,none⟩) d.length d.length):=by
    have h:=(gc.o.below aq gc.o.lt).cell 1
    simpa using h
   have bk:=ag.o.below aq ag.o.lt;have ip:=Hi (Qjg (ct:=d.length) ck.o cc.o eg.o (HG.o.below cr.o.base) (cr.o.frow HF.o.j) (at_:=some ⟨ab,0,none⟩) (tb:=fu) ⟨fun j u hj=>⟨ab,0,rfl,bk.lt,by rw[Nat.zero_add,bk.cell];simpa using hj⟩⟩ bh.o bi.o (by have:=A.o;omega) (by have:=A.o;omega));have f:=cr.o.box;have x0:wc.cell? ⟨z,0,none⟩=some (.slice a1 n.length c1):=by
    have h:=f.cell 0
    simpa using h
   have x1:wc.cell? ⟨z,1,none⟩=some (.slice b2 d.length d2):=by
    have h:=f.cell 1
    simpa using h
   have x2:wc.cell? ⟨z,2,none⟩=some (.slice b3 r.length d3):=by
    have h:=f.cell 2
    simpa using h
   clear f;clear aq I J Z bk;refine gj _ _ ?_;go_wp2_with fail;refine Makes.use ip.o ?_;rintro _ w7 em ⟨s1,rfl,ar⟩;clear x0 x1 x2 z2 ip;have c4:=Hi ar;have N:=ah.o.below em ah.o.lt;obtain⟨y0,y1,-⟩:=zc N;have f0:=N.free 0;have f1:=N.free 1;have nr:O ((w7.setCell ⟨M+1,0,none⟩ (.int .i64 0)).setCell ⟨M+1,1,none⟩ (.int .i64 0)=w7):=Hi (by rw[Qea N rfl,Qea N rfl]);obtain⟨Y,hY⟩:=nm w7.drew;have iq:Bl w7 Y:=by rw[<-hY];exact(Below.refl _ _).drew
   have bl:=em.trans (iq.mono em.size);have ad:=Hi (cr.o.below bl);have ns:O (PRow Y at_ ts):=Hi (by
    obtain⟨a,c,e,hr⟩:=(il.o.below bl).row;injection e with e _ _
    subst e
    exact hr)
   obtain⟨c5,c6⟩:=Ia (ah.o.below bl ah.o.lt) (cz.o.below bl cz.o.lt);obtain⟨TV,cs⟩:∃TV:Vec,TV=fun i=>T0 i+comboV mv xs kk i:=⟨_,rfl⟩
   have ir:O (∀(i:Nat) (x:RT),ts[i]?=some x->x.2.1=TV i/\x.2.2<=G+kk*B):=Hi (fun i x hx=>by
    obtain⟨F,U⟩:=io.o i x hx
    exact⟨by rw[cs];exact F,Nat.le_of_eq U⟩)
   have nt:G+kk*B<274877906000:=by
    have F:=A.o;have U:=gn.o;have h3:kk*B<=44*B:=Nat.mul_le_mul_right _ (by omega);omega
   obtain⟨bm,R,bn⟩:=Qra (T0:=T0) ck.o fx.o fy.o (by rw[<-ek.o];exact cp) cq gm.o fh.o (by have:=dr.o eg.o;omega) cg.o A.o bi.o ej.o;replace R:∀i,i<d.length->Fits (TV i) 440428832:=by rw[cs];exact R
   have it:O (dot d.length TV (fun i=>TV i / cv i)*(1 / 2)=dot d.length T0 (fun i=>T0 i / cv i)*(1 / 2)+dot d.length (comboV mv xs kk) (fun i=>comboV mv xs kk i / cv i)*(1 / 2)):=Hi (by
    have h:=Qqz fz.o bm ga.o;rw[kf.o] at h;rw[cs]
    exact h)
   have iu:O (0<=dot d.length (comboV mv xs kk) (fun i=>comboV mv xs kk i / cv i)):=Hi (Qjd d.length ga.o);obtain⟨iw,ix,nu⟩:=Ib R bn hY;clear ar N hY iq bl cs bm R bn;go_wp2_with fail;refine RegG.bg 8 (fun j=>some (bif j == 4 then 110 else bif j == 5 then 115 else bif j == 6 then 116 else bif j == 7 then 17 else 111+j)) ?_;rw[nr.o,nu.o];clear y0 y1 f0 f1;refine RegG.pu (c:=?_) [] (fun w m=>?_) ?_;rotate_left
   .
    intro K v;have f:=ad.o.box;have d0:w.cell? ⟨z,0,none⟩=some (.slice a1 n.length c1):=by
     have h:=(f.below m f.lt).cell 0
     simpa using h
    have d1:w.cell? ⟨z,1,none⟩=some (.slice b2 d.length d2):=by
     have h:=(f.below m f.lt).cell 1
     simpa using h
    have d2:w.cell? ⟨z,2,none⟩=some (.slice b3 r.length d3):=by
     have h:=(f.below m f.lt).cell 2
     simpa using h
    clear f;go_simp;exact v
   refine RegG.p0 [] ?_;refine RegG.ca (φ:=TsF d.length TV) [1] (TsF.stays _ _) (fun w m=>?_) ?_
   .
    intro K v;go_simp;exact Makes.use (Qrb (HG.o.below (ad.o.base.trans (m.mono ad.o.base.size))) (ns.o.below m) ir.o nt im.o (by omega)) v
   refine RegG.ca (φ:=EnF (dot d.length TV (fun i=>TV i / cv i)*(1 / 2))) [0,2] (EnF.stays _) (fun w m=>?_) ?_
   .
    rintro v2 ⟨ta,oi,ss,rfl,iy,iz⟩;intro K v;obtain⟨nv,en⟩:=Ia iy iz;clear iy iz;go_simp;exact Makes.use (Qjg (KT:=440428832) ck.o cc.o eg.o (HG.o.below (ad.o.base.trans (m.mono ad.o.base.size))) ((ad.o.below m).frow HF.o.j) nv.o en.o iw.o (by decide) (by decide)) v
   refine RegG.ca (φ:=EnF (dot d.length TV (fun i=>TV i / cv i)*(1 / 2))) [3] (EnF.stays _) (fun w m=>?_) ?_
   .
    intro v2 U K v;go_simp;exact v _ _ bR U
   refine RegG.ca (φ:=TF (dot d.length TV (fun i=>TV i / cv i)*(1 / 2))) [4] (TF.stays _) (fun w m=>?_) ?_
   .
    rintro v2 ⟨s,rfl,i0⟩;intro K v;go_simp;exact v _ _ bR ⟨s,rfl,i0⟩
   refine RegG.ca (φ:=Is (.agg #[.int .i64 0,.int .i64 0])) [4] (Is.stays _) (fun w m=>?_) ?_
   .
    rintro v2 ⟨s,rfl,i0⟩;intro K v;go_simp;exact v _ _ bR rfl
   refine RegG.ca (φ:=TF (dot d.length TV (fun i=>TV i / cv i)*(1 / 2))) [5] (TF.stays _) (fun w m=>?_) ?_
   .
    intro v2 U K v;go_simp;exact v _ _ bR U
   refine RegG.last (by simp only[List.nil_append,List.cons_append,List.length_append,List.length_cons,List.length_nil,Nat.reduceAdd]) (by rfl) (by rfl) (by kernel_rfl) (fun u m=>?_);simp only[FinG,List.nil_append,List.cons_append,Qad,Act.put,List.setIfInBounds_toArray,List.set_cons_zero,List.set_cons_succ,Nat.reduceAdd,Nat.reduceBEq,cond_true,cond_false];intro v2 _ v3 _ v4 _ v5 _ v7 h7 K v;obtain⟨s2,rfl,au⟩:=h7;have c7:=Hi au;have av:=c6.o.below m c6.o.lt;have N:=c5.o.below m c5.o.lt;obtain⟨y0,y1,-⟩:=zc av;have f0:=av.free 0;have f1:=av.free 1;obtain⟨y2,-⟩:=zc N;have a6:(u.setCell ⟨H,0,none⟩ (.int .i64 0)).setCell ⟨H,1,none⟩ (.int .i64 0)=u:=by rw[Qea av rfl,Qea av rfl]
   obtain⟨i1,bo⟩:=Ia a6 (ad.o.below m);clear au av N m a6;go_simp;rw[i1.o];refine v _ _ ?_;clear v y1 f0 f1;obtain⟨E1,eo⟩:=nm (dot d.length T0 (fun i=>T0 i / cv i)*(1 / 2));obtain⟨EU,ep⟩:=nm (dot d.length (comboV mv xs kk) (fun i=>comboV mv xs kk i / cv i));have eq:=it.o;have au:=c7.o;have ar:=c4.o;have cu:=gb.o;have er:=ix.o;have c8:=iu.o;rw[eo,ep] at eq;rw[eo] at ar cu;rw[ep] at er c8;rw[eq] at au;obtain⟨i2,i3,i4⟩:=Ib ar au cu;have i5:O (Fits (E1+EU*(1 / 2)) 700478760):=Hi ((cu.add er).mono (by have:=A.o;omega));have es:O (cmpQ E1 (E1+EU*(1 / 2))<=0):=Hi (Qq5 (by grind));have i6:O (s1.size<=1073741824):=Hi (by have:=i2.o.lenG i4.o;have:=A.o;omega);have i7:O (s2.size<=1073741824):=Hi (by have:=i3.o.lenG i5.o;omega)
   clear eo ep eq au ar cu er c8 it c7 c4 iu ix iw;go_wp2_with fail;refine Makes.use (RF.of (HG.o.below bo.o.base) i2.o.back i6.o i4.o (by have:=A.o;omega)) ?_;intro v8 w8 i8 h8;obtain⟨nw,et⟩:=Ia h8 i8;obtain⟨g8,rfl,_⟩:=h8;clear i8;go_wp2_with fail;refine Makes.use (RF.of (HG.o.below (bo.o.base.trans (et.o.mono bo.o.base.size))) i3.o.back i7.o i5.o (by decide)) ?_;intro v9 w9 eu h9;obtain⟨nx,i9,ja⟩:=Ib h9 (nw.o.below eu) (et.o.trans (eu.mono et.o.size));obtain⟨g9,rfl,_⟩:=h9;clear eu;go_wp2_with fail;refine Makes.use (RF.cmp i9.o nx.o (by have:=A.o;omega)) ?_;rintro _ oj c9 rfl;have jb:=Hi (ja.o.trans (c9.mono ja.o.size));obtain⟨CQ,jc⟩:=nm (cmpQ E1 (E1+EU*(1 / 2)));have jd:=es.o;rw[jc] at jd ⊢;clear c9 jc y0 y2;go_wp2;go_ret
   exact⟨rfl,bo.o.base.trans (jb.o.mono bo.o.base.size)⟩)
  clear gj;obtain⟨KY,je⟩:∃KY,KY=184551042:=⟨_,rfl⟩;have ai:=Hi je;clear je;go_loopw [59] (fun iv wr=>∃(k:Nat) (ts:List RT),k<=ps.length/\k<=mo.length/\iv=.int .i64 k/\PGrow wr W.heap.size (.slice at_ d.length ct) ts/\ts.length=d.length/\(∀(i:Nat) (t:RT),ts[i]?=some t->t.2.1=T0 i+comboV mv xs k i/\t.2.2=G+k*B)/\Below W.heap.size W wr) (fun iv _=>ps.length - (intOf iv).toNat)
  case atStart=>
   refine⟨0,kg,Nat.zero_le _,Nat.zero_le _,rfl,kh.o,ki.o,fun i t ht=>?_,kl.o⟩;obtain⟨F,U⟩:=kj.o i t ht;refine⟨?_,by rw[U];omega⟩;rw[F]
   show T0 i=T0 i+0
   grind
  case round=>
   obtain⟨k,ts,cp,cq,rfl,I,J,Z,jf⟩:=hrel;obtain⟨da,bp,br,bt⟩:=Ic I J Z jf;clear I J Z jf;by_cases ev:k<ps.length
   .
    obtain⟨p,hp⟩:∃p,ps[k]?=some p:=⟨ps[k],gE ev⟩;obtain⟨sb,so,jg,aw,c0⟩:=(gh.o.below bt.o).cell _ _ (Qa8 (sz:=2) (fun _=>rfl) ps k p 0 (.slice (some ⟨p.g1,0,none⟩) d.length d.length) hp rfl);obtain⟨ok,ol,db,_,c1⟩:=(gh.o.below bt.o).cell _ _ (Qa8 (sz:=2) (fun _=>rfl) ps k p 1 (.slice (some ⟨p.g2,0,none⟩) r.length r.length) hp rfl);rw[jg] at db;cases db;subst jg;have jh:=cn.o.each p (mO hp);have bu:=cn.o.told k p (xs k) hp (by
     rw[List.getElem?_map,gE (by rw[<-ek.o];exact ev),ej.o];simp only[Option.map_some,Option.some.injEq];rw[List.getD_eq_getElem?_getD,gE (by rw[<-ek.o];exact ev)]
     rfl)
    obtain⟨ji,en⟩:=Ia jh bu;obtain⟨X,hX⟩:=nm (wr.alloc (.cells #[.slice (some ⟨p.g1,0,none⟩) d.length d.length,.slice (some ⟨p.g2,0,none⟩) r.length r.length] 45));have ew:Bl wr X:=by rw[<-hX];exact(Below.refl _ _).alloc lZ _
    have jj:SB X wr.heap.size 45 #[.slice (some ⟨p.g1,0,none⟩) d.length d.length,.slice (some ⟨p.g2,0,none⟩) r.length r.length]:=by rw[<-hX];exact SB.new wr _ _
    obtain⟨x0,-⟩:=zc jj;obtain⟨ey,dc,jk⟩:=Ib (bt.o.trans (ew.mono bt.o.size)) (da.o.below ew) hX;have q1:((k:Int)<(ps.length:Int)):=by omega
    rw[<-hX] at x0;rw[Nat.add_zero] at c0;rw[<-Nat.add_assoc] at c1;clear hp jh bu hX ew jj aw;by_cases ny:k<mo.length
    .
     have q2:¬((mo.length:Int)<=(k:Int)):=by omega
     obtain⟨mt,cw⟩:∃mt,mo[k]?=some mt:=⟨mo[k],gE ny⟩;have ez:=gm.o k mt cw;have jl:mt.size<=1048576:=by
      have F:mt.size∈ mo.map (·.size):=List.mem_map.2 ⟨mt,mO cw,rfl⟩;have U:=Qji F;have h3:=fh.o;omega
     have e3:O (QOf mt.data.toList (mv k)/\mt.size<=1073741824/\Fits (mv k) 4194305):=Hi ⟨ez,by omega,(ez.fits' jl).mono (by omega)⟩;have jm:O (∀i,Fits (xs k i) KY):=Hi (fun i=>by
      rw[ej.o]
      exact Qq8 ck.o.fv fx.o fy.o (by rw[cg.o,ai.o]) _ i)
     obtain⟨nz,jn⟩:=Ia (show (textsV mo)[k]?=some (.string mt) by rw[textsV,List.getElem?_map,cw];rfl) (ji.o.below ey.o);have dd:O (G+k*B+(4194305+KY)+1=G+(k+1)*B/\G+(k+1)*B<100000000000):=Hi (by
      have F:=A.o;have U:=gn.o;have h3:=ai.o;have h4:(k+1)*B<=45*B:=Nat.mul_le_mul_right _ (by omega);have h5:(k+1)*B=k*B+B:=Nat.succ_mul _ _
      omega)
     go_wp2_with fail;rw[jk.o];clear x0 c0 c1 ez jl cw;go_loopw [79] (fun iv w2=>∃(i:Nat) (us:List RT),i<=d.length/\iv=.int .i64 i/\PGrow w2 W.heap.size (.slice at_ d.length ct) us/\us.length=d.length/\(∀(j:Nat) (t:RT),us[j]?=some t->(j<i->t.2.1=T0 j+comboV mv xs (k+1) j/\t.2.2=G+(k+1)*B)/\(i<=j->t.2.1=T0 j+comboV mv xs k j/\t.2.2=G+k*B))/\Below W.heap.size W w2/\SB w2 p.g1 32 (textsV p.x).toArray) (fun iv _=>d.length - (intOf iv).toNat)
     case atStart=>exact⟨0,ts,Nat.zero_le _,rfl,dc.o,bp.o,fun j t h=>⟨fun h0=>absurd h0 (by omega),fun _=>br.o j t h⟩,ey.o,jn.o.b1⟩
     case round=>
      obtain⟨i,us,hi,rfl,bv,e4,e5,bw,bx⟩:=hrel
      rename World=>wi
      obtain⟨cx,bz⟩:=Ia e4 e5;by_cases jo:i<d.length
      .
       have n0:i<p.x.length:=by rw[ji.o.l1];exact jo
       obtain⟨yt,e6⟩:∃yt,p.x[i]?=some yt:=⟨p.x[i],gE n0⟩;have e7:=en.o.1 i yt e6;have de:yt.size<=1073741824:=by
        have F:=e7.lenG (jm.o i);have U:=ai.o;omega
       have jp:=Hi (And.intro e7.back de);have c0:wi.cell? ⟨p.g1,i,none⟩=some (.string yt):=by
        rw[bx.cell];simp[textsV,e6]
       obtain⟨gt,n4⟩:∃gt,at_=some ⟨gt,0,none⟩:=by
        rcases bv.list.own.2 with ⟨e,_⟩|⟨g,om,oo,e,_⟩
        . injection e with _ e2 _
          omega
        . injection e with e1 _ _
          exact⟨g,e1⟩
       subst n4;obtain⟨t,ht⟩:∃t,us[i]?=some t:=⟨us[i]'(by omega),gE (by omega)⟩;obtain⟨Yr,e8⟩:=nm wi.drew;have cy:Bl wi Yr:=by rw[<-e8];exact(Below.refl _ _).drew
       have e9:=Hi (bw.trans (cy.mono bw.size));have fa:=bv.below cy;have aj:=Hi (bx.below cy bx.lt);have b0:=ap.o.below e9.o;have jq:=Hi (HG.o.below b0.base);obtain⟨mb,mf,n5,jr,jt⟩:=(HM.o.below b0.base).cell k _ nz.o;obtain⟨a0,k0,e0,fb⟩:=fa.row;obtain rfl:a0=some ⟨gt,0,none⟩:=by
        injection e0 with h _ _
        exact h.symm
       clear e0;obtain⟨g',o',e1,ju,fc⟩:=fb.at ht;cases e1;rw[Nat.zero_add] at fc;obtain⟨n6,fd,jv,es,n7,n8⟩:=Ie (fb.rfL (mO ht) ((bz.o i t ht).2 lZ).2 ((bz.o i t ht).2 lZ).1) (And.intro ju jr) fc jt fa e8;have jw:O (4194305+KY<274877906000/\G+k*B+(4194305+KY)<274877906000):=Hi (by have:=dd.o;omega);have jx:O (0<KY):=Hi (by have:=ai.o;omega);have q3:((i:Int)<(d.length:Int)):=by omega
       subst n5;clear bv e4 e5 bw bx e7 de e6 ht e8 cy fa b0 jr jt fb ju fc;go_wp2_with fail;refine RegG.bg 16 (fun j=>some (84+j)) ?_;rw[n8.o];clear c0;refine RegG.p0 [] ?_;refine RegG.p0 [] ?_;refine RegG.p0 [] ?_;refine RegG.p0 [] ?_;refine RegG.p0 [2,3] ?_;refine RegG.pu (c:=?_) [4] (fun w m=>?_) ?_;rotate_left
       .
        intro K v;have d0:=ce m fd.o.1 jv.o;go_simp;exact v
       refine RegG.p0 [] ?_;refine RegG.p0 [] ?_;refine RegG.p0 [6,7] ?_;refine RegG.pu (c:=?_) [8] (fun w m=>?_) ?_;rotate_left
       .
        intro K v;have d0:=ce m fd.o.2 es.o;go_simp;exact v
       refine RegG.ca (φ:=RF (mv k) 4194305) [9] (RF.stays _ _) (fun w m=>?_) ?_
       .
        intro K v;go_simp;exact Makes.use (RF.of (jq.o.below m) e3.o.1 e3.o.2.1 e3.o.2.2 (by decide)) v
       refine RegG.p0 [] ?_;refine RegG.ca (φ:=RF (xs k i) KY) [11] (RF.stays _ _) (fun w m=>?_) ?_
       .
        intro K v;go_simp;exact Makes.use (RF.of (jq.o.below m) jp.o.1 jp.o.2 (jm.o i) jx.o) v
       refine RegG.ca (φ:=RF (mv k*xs k i) (4194305+KY)) [10,12] (RF.stays _ _) (fun w m=>?_) ?_
       .
        intro v1 F v2 U;intro K v;go_simp;exact Makes.use (RF.mul F U jw.o.1) v
       refine RegG.ca (φ:=RF (T0 i+comboV mv xs k i+mv k*xs k i) (G+k*B+(4194305+KY)+1)) [5,13] (RF.stays _ _) (fun w m=>?_) ?_
       .
        intro v1 F;intro K v;go_simp;exact Makes.use (RF.add (n6.o.below m) F jw.o.2) v
       refine RegG.p0 [0,1] ?_;refine RegG.last (by simp only[List.nil_append,List.cons_append,List.length_append,List.length_cons,List.length_nil,Nat.reduceAdd]) (by rfl) (by rfl) (by kernel_rfl) (fun u m=>?_);simp only[FinG,List.nil_append,List.cons_append,Qad,Act.put,List.setIfInBounds_toArray,List.set_cons_zero,List.set_cons_succ,Nat.reduceAdd,Nat.reduceBEq,cond_true,cond_false];intro op _ oq _ os _ ot n9 K v;obtain⟨fe,rfl,df,b4,b5⟩:=n9;rw[dd.o.1] at b4 b5;have jy:=(n7.o.below m).set cx.o jo (t:=(fe,T0 i+comboV mv xs k i+mv k*xs k i,G+(k+1)*B)) ⟨df,b4,b5⟩;obtain⟨jz,j0,⟨C,aw⟩,cf⟩:=jy;have j1:=e9.o.trans (m.mono e9.o.size);have ff:=(Only.refl gt u).setCell i (.pointer (some ⟨fe,0,none⟩));obtain⟨oa,ob⟩:=Ia jz (Only.fresh j1 ff j0);have oc:=Hi ((aj.o.below m aj.o.lt).only ff (by
        intro e;rw[<-e] at aw
        exact aw.unlike (aj.o.below m aj.o.lt) (by decide) rfl))
       have f0:=aw.free i;have d0:=ce m fd.o.1 jv.o;clear df b4 b5 jz j0 aw cf j1 ff m;go_simp;refine v _ _ ?_;clear v f0 d0;go_wp2;go_roundw
       case rel=>
        refine⟨i+1,us.set i (fe,T0 i+comboV mv xs k i+mv k*xs k i,G+(k+1)*B),by omega,by go_num,oa.o,by rw[List.length_set];exact cx.o,fun j t' hj=>?_,ob.o,oc.o⟩;rw[List.getElem?_set] at hj
        split at hj
        .
         rename_i e;subst e
         split at hj
         .
          cases hj;refine⟨fun _=>⟨?_,rfl⟩,fun h=>by omega⟩
          show T0 i+comboV mv xs k i+mv k*xs k i=T0 i+(comboV mv xs k i+mv k*xs k i)
          grind
         . cases hj
        . rename_i e
          exact⟨fun h=>(bz.o j t' hj).1 (by omega),fun h=>(bz.o j t' hj).2 (by omega)⟩
       case measure=>simp[intOf];omega
      .
       have ou:i=d.length:=by omega
       have q3:¬((i:Int)<(d.length:Int)):=by omega
       obtain⟨od,oe⟩:=Ia bv bw;clear bv e4 e5 bw bx;go_wp2;go_roundw
       case rel=>exact⟨k+1,us,by omega,by omega,by go_num,od.o,cx.o,fun j t hj=>(bz.o j t hj).1 (by have:=(gZ hj).1;have:=cx.o;omega),oe.o⟩
       case measure=>simp[intOf];omega
    .
     have q2:((mo.length:Int)<=(k:Int)):=by omega
     go_wp2_with fail;rw[jk.o,ee.o];exact bj.o _ _ _ _ _ _ _ _ _ _ _ _ _ _ _ _ _ _ _ _ _ _ _ _ _ _ _ _ _ _ _ _ _ _ _ _ _ _ _ _ _ _ _ _ _ _ _ _ _ _ _ _ _ _ _ _ _ _ _ _ _ _ _ _ _ _ _ _ _ _ _ _ _ _ _ _ _ _ _ _ _ _ _ _ _ _ _ _ _ _ _ _ _ _ _ _ _ _ _ _ _ _ _ _ _ _ _ _ _ _ _ _ _ _ _ _ _ _ _ _ _ _ _ _ _ _ _ _ X k ts cp cq ey.o dc.o bp.o br.o
   .
    obtain rfl:k=ps.length:=by omega
    go_wp2_with fail;rw[ee.o];exact bj.o _ _ _ _ _ _ _ _ _ _ _ _ _ _ _ _ _ _ _ _ _ _ _ _ _ _ _ _ _ _ _ _ _ _ _ _ _ _ _ _ _ _ _ _ _ _ _ _ _ _ _ _ _ _ _ _ _ _ _ _ _ _ _ _ _ _ _ _ _ _ _ _ _ _ _ _ _ _ _ _ _ _ _ _ _ _ _ _ _ _ _ _ _ _ _ _ _ _ _ _ _ _ _ _ _ _ _ _ _ _ _ _ _ _ _ _ _ _ _ _ _ _ _ _ _ _ _ _ wr _ ts cp cq bt.o da.o bp.o br.o
 .
  have e0:(cd != 0)=true:=by simpa using fq
  go_wp2;rw[ed.o];go_ret;exact⟨rfl,ap.o.base⟩
section
open Go.ChangeShapes Go.WideShapes Go.ChangeAt Go.RowKit
theorem Qjj{H:Type}:∀a:List B6,bW a<=Rows.uptoBulkAll (a.map (barD (H:=H)))
 | []=>by simp[bW,Rows.uptoBulkAll]
 |s :: l=>by
  have b:=Qjj (H:=H) l;have c:=(Qha (H:=H) s).2;simp only[bW,List.map_cons,Rows.uptoBulkAll];omega
theorem Qjk{H:Type}:∀ls:Vt,(ls.map (·.size)).sum<=Rows.uptoBulkAll (ls.map (textD (H:=H)))
 | []=>by simp[Rows.uptoBulkAll]
 |s :: l=>by
  have a:=Qjk (H:=H) l;have b:=Qvx (H:=H) s;simp only[List.map_cons,List.sum_cons,Rows.uptoBulkAll];omega
def tcL(s:Vs):List Value:=[.string s]
theorem Qjl:∀a:Vt,a.flatMap tcL=textsV a
 | []=>rfl
 |s :: l=>by
  rw[List.flatMap_cons,Qjl l];rfl
theorem Qrd:prog.readableRec 28=true:=by kernel_rfl
theorem Qre:28<prog.types.size:=by refine of_decide_eq_true ?_;kernel_rfl
theorem Qrf{H:Type}{enc:TypeId × Value->H}{W:Vz}{a:Vx}{b f:Nat}{d:DataW H}{o:List MemPlace}(p:Rows.uptoBulk d<=1048576)(h:DataW.Trod enc prog W 0 (fun _=>true) true 28 (.slice a b f) d o):
 ∃ls:Vt,b=ls.length/\CRow W a (textsV ls)/\ls.length<=1048576/\(ls.map (·.size)).sum<=1048576:=by
 obtain⟨g,h⟩:=h;obtain⟨q,cap',i,e,r,hl,t⟩:=Qdg (c:=tcL) (dat:=textD) (sz:=1) ⟨#[]⟩ (by decide) (fun _=>rfl) underlying28 Qdh (fun g y x u=>by
  obtain⟨s,v,rfl,_⟩:=DataW.trod_string underlying32 u
  exact⟨s,v,rfl⟩) h
 have l: [Value.slice a b f]= [Value.slice q i.length cap']:=e;simp only[List.cons.injEq,and_true,Value.slice.injEq] at l;obtain⟨rfl,rfl,rfl⟩:=l;have k:=Qb5 p hl t;have n:=Qdj (H:=H) textD (fun e=>by simp[textD,Rows.uptoBulk]) i;have m:=Qjk (H:=H) i;have w:=Qjl i;have j:=r.row;rw[w] at j;exact⟨i,rfl,j,by omega,by omega⟩
namespace giveLeast
theorem Qrg(H:Type)(enc:TypeId × Value->H)(W:Vz)(k:Nat)(a:Vw)(w y:List (DataW H))(f:List MemPlace)
 (c:∀(j:Nat) t v,Tryz.f5.params[j]?=some t->a[j]?=some v->Value.okWide prog W .any k t v)
 (hW:DataW.Whole enc prog Tryz.f5.params.toList Rows.giveLeastSpec.vars false W a.toList w y f) (hk:Rows.uptoSmall H (w++y)=true) (hG:Glob W):
 Calls prog 5 a W fun e r=>∃v,e=.returned v/\Rows.giveLeastSpec.post enc prog Tryz.f5 false true false false W a v r:=by
 have m:=hW;obtain⟨p,q,n,K,rfl,L,M⟩:=hW;have z:=n;rw[Tryz.params5] at z c;obtain⟨N,O,P,d0,d1,d2,A,B,C,rfl,rfl,rfl,D,E,F⟩:=trodAll_three z;obtain⟨rfl,rfl⟩:=trodVars_none K;clear n;obtain⟨cs,rfl,Q⟩:=okWide_struct underlying26 (c 0 26 N rfl rfl);obtain⟨R,ll,S,rfl⟩:=okWide_slice underlying27 (c 1 27 O rfl rfl);obtain⟨T,lm,U,rfl⟩:=okWide_slice underlying28 (c 2 28 P rfl rfl);unfold Rows.uptoSmall at hk;have o:=of_decide_eq_true hk;rw[List.append_nil] at o;obtain⟨V,X,Y,c1,c2,c3,G,I,Z,rfl,hf,hz,_,n2,n3,aa⟩:=Qvy (Nat.le_trans (Qg8 (by simp)) o) D;obtain⟨ls,rfl,hl,ab⟩:=Qv2 E;obtain⟨mo,rfl,hm,s,u⟩:=Qrf (Nat.le_trans (Qg8 (by simp)) o) F;have J:Rows.uptoBulk d0+(Rows.uptoBulk d1+Rows.uptoBulk d2)<=1048576:=by
  have:=o;simp only[Rows.uptoBulkAll] at this;omega
 have hj:=Ql8 (H:=H) G;have ad:=Qjj (H:=H) I;have hw:=Ql9 (H:=H) ls;have hn:=Qdj (H:=H) loadD (fun e=>(Ql7 e).1) ls;obtain⟨vs,hv⟩:=LVal.ex ls (fun l h=>by have:=Qfh h;omega);have g:=fun x i=>m.lt x i
 refine(Qrc V X Y R T c1 c2 c3 S U G I Z ls mo vs W hG hf hz hl hv hm u n2 n3 (by omega) s (by omega)).mono ?_;rintro e r ⟨rfl,d⟩;refine⟨_,rfl,[d0,d1,d2],[],A++B++C++ [],[],A++(B++(C++ [])),[],m,trodAll_cons_mk (shut_bool underlying4 _) trodAll_mk0,?_,rfl,d.frame _,fun h=>by cases h⟩
 show DataW.TrodAll enc prog r 0 (fun b=>decide (b<W.heap.size)) true Tryz.f5.params.toList _ [d0,d1,d2] _
 rw[Tryz.params5];exact trodAll_cons_mk (Below.trod Qg7 Qvv Qvw D d (fun x i=>g x (by simp[i])))
  (trodAll_cons_mk (Below.trod Qg7 Qvz Qv0 E d (fun x i=>g x (by simp[i]))) (trodAll_cons_mk (Below.trod Qg7 Qrd Qre F d (fun x i=>g x (by simp[i]))) trodAll_mk0))
theorem glob{W:Vz}(b:laidMetH prog Rows.giveLeastUptoRow.laid W)(a:W.ShapedOpen prog):Glob W:=
 ⟨Qvq a,fun _=>Qvp (Ql2 (Ql2 (show laidMet prog Rows.giveLeastUptoRow.laid W from b)))⟩
end giveLeast
def tabledL(w:Vz):World:=
 put 10 Rows.laid_math_bits_deBruijn32tab (put 11 Rows.laid_math_bits_deBruijn64tab (put 9 Rows.laid_internal_strconv_uint64pow10
  (put 8 Rows.laid_unicode_utf8_acceptRanges (put 7 Rows.laid_unicode_utf8_first w))))
end
namespace giveLeast
open Go.ChangeShapes Go.WideShapes Go.ChangeAt Go.RowKit
set_option linter.unusedVariables false
set_option linter.unusedSimpArgs false
theorem Qrh(a:Os):laidMet prog Rows.giveLeastUptoRow.laid ((tabledL (World.holding prog a ⟨#[],#[],[]⟩)).forCall (fun _ _=>0) ⟨#[],#[.agg #[.slice none 0 0,.slice none 0 0,.slice none 0 0],.slice none 0 0,.slice none 0 0],[]⟩).memory:=
 laidMet_of_run' 8 (by kernel_rfl) (by kernel_rfl)
theorem reads(a:Os){H:Type}(enc:TypeId × Value->H):∃places,DataW.whole enc prog ((tabledL (World.holding prog a ⟨#[],#[],[]⟩)).forCall (fun _ _=>0) ⟨#[],#[.agg #[.slice none 0 0,.slice none 0 0,.slice none 0 0],.slice none 0 0,.slice none 0 0],[]⟩).memory Tryz.f5.params.toList Rows.giveLeastSpec.vars false #[Value.agg #[.slice none 0 0,.slice none 0 0,.slice none 0 0],.slice none 0 0,.slice none 0 0].toList 8=some ([.agg [.nil,.nil,.nil],.nil,.nil],[],places):=
 ⟨[],by kernel_rfl⟩
theorem Qri(d:Os)(a:d.Started)(H:Type)(enc:TypeId × Value->H)(F:Stop.Interp):
 ReturnsInHanded {} Tryz.checked d 5 .any ((Rows.OpenSpec.upto Rows.giveLeastSpec).preRow enc prog Tryz.f5 Rows.giveLeastUptoRow.domain false Rows.giveLeastUptoRow.laid) (((Rows.OpenSpec.upto Rows.giveLeastSpec).at F).post enc prog Tryz.f5 false true false false):=by
 obtain⟨places,i⟩:=reads d enc;refine returnsInHanded_of_row (C:=Tryz.checked) (s:=Rows.OpenSpec.upto Rows.giveLeastSpec) own a (by kernel_rfl) func5
  (witness_row_at (enc:=enc) (C:=Tryz.checked) false (tabledL (World.holding prog d ⟨#[],#[],[]⟩)) #[.agg #[.slice none 0 0,.slice none 0 0,.slice none 0 0],.slice none 0 0,.slice none 0 0] rfl (by kernel_rfl) (by kernel_rfl) (by kernel_rfl)
    (OpenSpec.preRow_of_cond 8 i (by kernel_rfl) (fun k hk=>by cases hk;kernel_rfl) (by kernel_rfl) (Qrh d))) ?_
 intro W e f j l b g hW _ c _ m h _;exact Qrg H enc W e f j l b g hW (c _ rfl) (glob m h)
end giveLeast
namespace giveLeast
open Go.ChangeShapes Go.WideShapes Go.ChangeAt Go.RowKit
set_option linter.unusedVariables false
set_option linter.unusedSimpArgs false
theorem closed:joinedFacts prog 5 Tryz.f5 (Rows.OpenSpec.upto Rows.giveLeastSpec).bare Rows.giveLeastUptoRow=true:=by
 unfold joinedFacts;simp only[Bool.and_eq_true]
 repeat' with_reducible apply And.intro
 all_goals (as_aux_lemma=>kernel_rfl)
theorem named:prog.funcNamed Rows.giveLeastUptoRow.func=some 5:=by kernel_rfl
theorem said:Rows.GiveLeastUptoSaid:=
 OpenClaim.holds_of_cond 5 Tryz.f5 rfl rfl rfl rfl rfl rfl rfl ⟨rfl,rfl,rfl,rfl,rfl⟩ rfl rfl rfl rfl rfl named func5 closed
  (of_decide_eq_true (by kernel_rfl)) (by unfold Func.isWrapper;first|(rw [if_pos (by decide +kernel)];kernel_rfl)|(rw [if_neg (by decide +kernel)];exact⟨rfl,rfl⟩))
  (fun b a H enc _ F=>by rw[OpenClaim.pre_eq_preRow];exact Qri b a H enc F)
theorem plain(f:FuncId)(a:Func)(d:Tryz.pinned.checked.prog.funcNamed "rafter/rafterlaw.GiveLeast" =some f)(b:Tryz.pinned.checked.prog.funcs[f]?=some a):
 false=Tryz.pinned.checked.prog.looks []/\∀(j:Nat) t,a.params[j]?=some t->Tryz.pinned.checked.prog.wantsStandIn t=false:=by
 obtain rfl:f=5:=Option.some.inj ((show prog.funcNamed "rafter/rafterlaw.GiveLeast" =some 5 by kernel_rfl).symm.trans d) |>.symm;obtain rfl:a=Tryz.f5:=(Option.some.inj (func5.symm.trans b)).symm;refine⟨by kernel_rfl,fun j t c=>?_⟩;rw[Tryz.params5] at c;have:=Array.mem_of_getElem? c;simp only[List.mem_toArray,List.mem_cons,List.not_mem_nil,or_false] at this;rcases this with rfl|rfl|rfl
 . exact(show prog.wantsStandIn 26=false by kernel_rfl)
 . exact(show prog.wantsStandIn 27=false by kernel_rfl)
 . exact(show prog.wantsStandIn 28=false by kernel_rfl)
end giveLeast
theorem giveLeast_upto:Rows.GiveLeastUptoCardSaid:=
 Claim7.holds_tied_plain_at .later [] _ _ _ _ giveLeast.said (fun _ h=>by cases h) (by kernel_rfl) (fun _ h=>by cases h) giveLeastUpto_row_tie rfl ⟨rfl,rfl⟩ (by kernel_rfl) rfl giveLeast.plain (by kernel_rfl)
end Go.Proofs.YtkkadnoecklepaaGreatDoor
