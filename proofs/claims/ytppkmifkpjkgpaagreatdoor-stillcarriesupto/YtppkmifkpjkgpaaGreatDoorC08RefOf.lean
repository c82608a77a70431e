import Derived.Test.YtppkmifkpjkgpaaGreatDoorC07Shelf
namespace Go.Proofs.YtppkmifkpjkgpaaGreatDoor
open Go.RowKit
open Go.Proofs.Tryz
set_option linter.unusedSimpArgs false
set_option linter.unusedVariables false
set_option maxHeartbeats 8000000
set_option maxRecDepth 1000000
theorem Qkk(s p:Vs)(w:Vz):
 Calls prog 62 #[.string s,.string p] w fun e w'=>e=.returned (.bool (Lib.hasPrefix s.data.toList p.data.toList))/\w'=w:=Any.strings_HasPrefix Tryz.lays99 s p w
theorem Qkl(s a:Vs)(n:Nat)(m:Int)(w:Vz)(c:s.size<4294967281)(d:w.cell? ⟨4,0,none⟩=some (.int .i64 m))(f:1<=a.size)(g:1<=n)(b:n<=9223372036854775807):
 Calls prog 63 #[.string s,.string a,.int .i64 n] w fun e w'=>
  e=.returned (.slice (some ⟨w.heap.size,0,none⟩) (Lib.splitB a 0 (min n (s.size+1) - 1) s).length (min n (s.size+1)))/\w'=w.alloc (.cells (Lib.cellsOf (Lib.splitB a 0 (min n (s.size+1) - 1) s) (min n (s.size+1))) 9):=Any.strings_SplitN Tryz.lays147 (by kernel_rfl) s a n m w c d f g b
theorem Qgn(s a:Vs)(w:Vz)(f:s.size<=9223372036854775807)(d:a.size<4294967281)(c:∀(j:Nat) b,a.data.toList[j]?=some b->b.toNat<128):
 Calls prog 65 #[.string s,.string a] w fun e w'=>e=.returned (.string ⟨(Lib.trimS s.data.toList a.data.toList).toArray⟩)/\Below w.heap.size w w':=Any.strings_Trim_laid Tryz.lays160 (by kernel_rfl) s a w f d c
theorem Qkm{p:UInt8->Bool}{l:Vu}{c:UInt8}(h:c∈ l.takeWhile p):p c=true:=by
 induction l with
 |nil=>simp at h
 |cons d l b=>
  rw[List.takeWhile_cons] at h;by_cases a:p d=true
  .
   rw[if_pos a] at h;rcases List.mem_cons.1 h with rfl|h
   . exact a
   . exact b h
  . rw[if_neg a] at h;cases h
theorem Qs2{p:UInt8->Bool}{l:Vu}(h:∀c,c∈ l->p c=true):l.dropWhile p= []:=by
 induction l with
 |nil=>rfl
 |cons d l a=>
  rw[List.dropWhile_cons,if_pos (h d (List.mem_cons_self ..))];exact a fun c b=>h c (List.mem_cons_of_mem _ b)
theorem Qkn(l a:Vu):Lib.trimS l a= []↔∀c,c∈ l->a.contains c=true:=by
 unfold Lib.trimS Lib.trimLeftS Lib.trimRightS;constructor
 .
  intro h c e;apply bC;intro f;have d:c∈ (l.reverse.dropWhile (a.contains ·)).reverse:=by
   rw[List.mem_reverse];have b:c∈ l.reverse:=List.mem_reverse.2 e;rw[<-List.takeWhile_append_dropWhile (p:=(a.contains ·)) (l:=l.reverse)] at b;rcases List.mem_append.1 b with b|b
   . have:=Qkm (p:=(a.contains ·)) b
     exact absurd this f
   . exact b
  rw[<-List.takeWhile_append_dropWhile (p:=(a.contains ·)) (l:=(l.reverse.dropWhile (a.contains ·)).reverse),h,List.append_nil] at d;exact absurd (Qkm (p:=(a.contains ·)) d) f
 .
  intro h;have d:l.reverse.dropWhile (a.contains ·)= []:=by
   exact Qs2 fun c e=>h c (List.mem_reverse.1 e)
  rw[d];rfl
theorem Qko(c:UInt8):([48,49,50,51,52,53,54,55,56,57]:List UInt8).contains c=true↔48<=c.toNat/\c.toNat<=57:=by
 constructor
 .
  intro h;simp at h;rcases h with rfl|rfl|rfl|rfl|rfl|rfl|rfl|rfl|rfl|rfl<;>decide
 .
  rintro⟨a,b⟩;have:c=UInt8.ofNat c.toNat:=by simp
  rw[this];generalize c.toNat=n at*;have:n=48∨n=49∨n=50∨n=51∨n=52∨n=53∨n=54∨n=55∨n=56∨n=57:=by omega
  rcases this with rfl|rfl|rfl|rfl|rfl|rfl|rfl|rfl|rfl|rfl<;>decide
theorem Qs3(l:Vu):Lib.trimS l [48,49,50,51,52,53,54,55,56,57]= []↔AllDigits l:=by
 rw[Qkn];exact⟨fun h c a=>(Qko c).1 (h c a),fun h c a=>(Qko c).2 (h c a)⟩
theorem Qkp(l:Vu)(h:AllDigits l):Lib.trimS l [48]= []↔decVal l=0:=by
 rw[Qkn]
 induction l with
 |nil=>simp[decVal]
 |cons c l b=>
  have m:=h c (List.mem_cons_self ..);have b:=b fun d a=>h d (List.mem_cons_of_mem _ a)
  have e:decVal (c :: l)=(c.toNat - 48)*10 ^ l.length+decVal l:=by
   have:=Qcc [c] l
   simpa [decVal] using this
  have n:0<10 ^ l.length:=Nat.pow_pos (by decide);rw[e];constructor
  .
   intro f;have g:=b.1 fun d a=>f d (List.mem_cons_of_mem _ a)
   have i:=f c (List.mem_cons_self ..);have j:c=48:=by simpa using i
   rw[g,j];simp
  .
   intro f;have g:decVal l=0:=by omega
   have i:(c.toNat - 48)*10 ^ l.length=0:=by omega
   have j:c.toNat - 48=0:=by
    rcases Nat.mul_eq_zero.1 i with h|h
    . exact h
    . omega
   have k:c=48:=by
    have:c.toNat=48:=by omega
    exact UInt8.toNat_inj.1 this
   intro d a;rcases List.mem_cons.1 a with rfl|a
   . rw[k];rfl
   . exact b.2 g d a
theorem Qs4{s a:Vs}(h:(⟨(Lib.trimS s.data.toList [48,49,50,51,52,53,54,55,56,57]).toArray⟩:ByteArray)=a):a.toList= []↔AllDigits s.data.toList:=by
 subst h;rw[Lib.toList_data];exact Qs3 _
theorem Qcl(s:Vs)(w:Vz)(l:s.size<=1073741824):
 Calls prog 64 #[.string s] w fun e w'=>(∃v,e=.returned (.bool v)/\(v=true↔IsDig s.data.toList))/\Below w.heap.size w w':=by
 have f:=Hi (Lib.toList_data s);by_cases b:s.toList= []
 .
  go_enter func64,ntmps64;go_wp2_with fail;go_ret;exact⟨⟨false,rfl,by rw[<-f.o];simp[IsDig,b]⟩,Below.refl _ _⟩
 .
  go_enter func64,ntmps64;go_wp2_with fail;refine(Qgn s _ _ (by omega) (by decide) (ascii_of_all (by decide))).mono ?_;rintro e w1 ⟨rfl,g⟩;have i:=Hi g;clear g;obtain⟨k,a⟩:=nm ((⟨(Lib.trimS s.data.toList [48,49,50,51,52,53,54,55,56,57]).toArray⟩:ByteArray));rw[show (⟨#[48,49,50,51,52,53,54,55,56,57]⟩:ByteArray).data.toList= [48,49,50,51,52,53,54,55,56,57] from rfl,a];have j:=Hi (Qs4 a);clear a;by_cases c:k.toList= []
  .
   go_wp2;go_ret;refine⟨⟨_,rfl,?_⟩,i.o⟩;have d:IsDig s.data.toList:=⟨by rw[<-f.o];exact b,j.o.1 c⟩;simp[b,d]
  .
   go_wp2;go_ret;refine⟨⟨_,rfl,?_⟩,i.o⟩;have d:¬IsDig s.data.toList:=fun h=>c (j.o.2 h.2)
   simp[c,d]
theorem Qkq(t:Vs)(k:Nat)(h:(Lib.cut t.data.toList [47]).2.2=false):Lib.splitB ⟨#[47]⟩ 0 k t= [t]/\(Lib.cut t.data.toList [47]).1=t.data.toList:=by
 have a:¬(0<=Lib.index t.data.toList [47]):=by
  intro b;unfold Lib.cut at h;rw[if_pos b] at h;cases h
 constructor
 .
  apply Lib.splitB_miss;have:=Lib.index_ge t.data.toList [47]
  show Lib.index t.data.toList [47]= -1
  omega
 . unfold Lib.cut
   rw[if_neg a]
theorem Qkr(t:Vs)(h:(Lib.cut t.data.toList [47]).2.2=true):1<=t.size/\∃t0 t1:Vs,Lib.splitB ⟨#[47]⟩ 0 1 t= [t0,t1]/\t0.data.toList=(Lib.cut t.data.toList [47]).1/\t1.data.toList=(Lib.cut t.data.toList [47]).2.1/\t0.size<=t.size/\t1.size<=t.size:=by
 have b:0<=Lib.index t.data.toList [47]:=by
  apply bC;intro d;unfold Lib.cut at h;rw[if_neg d] at h;cases h
 have c:=Lib.index_room t.data.toList [47] b;obtain⟨i,a⟩:∃i:Nat,Lib.index t.data.toList [47]=i:=⟨(Lib.index t.data.toList [47]).toNat,by omega⟩;have e:t.data.toList.length=t.size:=by simp
 rw[a] at c;simp at c;refine⟨by omega,t.extract 0 (i+0),t.extract (i+1) t.size,?_,?_,?_,?_,?_⟩
 . rw[Lib.splitB_hit ⟨#[47]⟩ 0 0 t i a];rfl
 .
  rw[Lib.extract_data];unfold Lib.cut;rw[if_pos b,a];simp
 .
  rw[Lib.extract_data];unfold Lib.cut;rw[if_pos b,a];simp;rw[List.take_of_length_le (by simp)]
 . simp;omega
 . simp
theorem Qbc(w:Vz):RatVal (w.alloc (.cells #[.bool false,.slice none 0 0,.bool false,.slice none 0 0] 124)) w.heap.size 0:=
 ⟨0,none,0,[],none,0,[],⟨SB.new w _ _,⟨Row.nil _ _,Num.zero _,by simp⟩,⟨Row.nil _ _,Num.zero _,by simp⟩⟩,.inr ⟨rfl,rfl⟩⟩
theorem Qcm(w:Vz):(Thing.room w.heap.size).holds (w.alloc (.cells #[.bool false,.slice none 0 0,.bool false,.slice none 0 0] 124)):=RatVal.room (Qbc w)
def NewRat(w:Vz)(q:Rat)(e:Ending)(w':Vz):Prop:=(∃b,e=.returned (.pointer (some ⟨b,0,none⟩))/\w.heap.size<=b/\RatVal w' b q)/\Below w.heap.size w w'
theorem Qcn{s:Vs}(h:IsDig s.data.toList):0<s.size:=by
 have:s.data.toList.length=s.size:=by simp
 have b:s.data.toList.length≠0:=fun a=>h.1 (List.length_eq_zero_iff.1 a)
 omega
theorem Qks{l:Vu}{a:Vs}(h:(⟨l.toArray⟩:ByteArray)=a):a.toList= []↔l= []:=by
 subst h;rw[Lib.toList_data]
theorem Qco{w w':Vz}{X:Int}{a:Vx}{cap:Nat}{l:Vy}(h:Laid (w.alloc (.cells zeroInt 122)) w' w.heap.size 0 122 zeroInt X a cap l):IntAt w' w.heap.size 0 X a cap l/\Below w.heap.size w w':=
 ⟨h.at (by simp[zeroInt]),Only.fresh (bR.alloc lZ _) h.only lZ⟩
theorem Qs5(s:Vs)(m:Int)(w:Vz)(hm:w.cell? ⟨4,0,none⟩=some (.int .i64 m))(hs:s.size<=1073741824)(hp:Lib.hasPrefix s.data.toList [45]=false):
 Calls prog 33 #[.string s] w fun e w'=>∃q,QOf s.data.toList q/\NewRat w q e w':=by
 obtain⟨M,Z⟩:=Ia hp (show Lib.trimPrefix s.data.toList [45]=s.data.toList by unfold Lib.trimPrefix;rw[hp];rfl);clear hp;go_enter func33,ntmps33;go_wp2_with fail;refine(Qkk s ⟨#[45]⟩ w).mono ?_;rw[show (⟨#[45]⟩:ByteArray).data.toList= [45] from rfl,M.o];rintro e w ⟨rfl,hw⟩;subst hw;go_wp2_with fail;refine(Qkl s ⟨#[47]⟩ 2 m w (by omega) hm (by decide) (by decide) (by decide)).mono ?_;rintro e w1 ⟨rfl,r⟩;by_cases L:(Lib.cut s.data.toList [47]).2.2=true
 .
  obtain⟨h1,t0,t1,v,D,aa,al,am⟩:=Qkr s L;have e2:min 2 (s.size+1)=2:=by omega
  rw[e2,v] at r;rw[e2,v];have E:Below w.heap.size w w1:=by rw[r];exact(Below.refl _ _).alloc lZ _
  have t:SB w1 w.heap.size 9 #[.string t0,.string t1]:=by rw[r];exact SB.new w _ _
  have l:w1.cell? ⟨w.heap.size,0,none⟩=some (.string t0):=t.cell 0;have c1:w1.cell? ⟨w.heap.size,1,none⟩=some (.string t1):=t.cell 1;have a:=t.lt;obtain⟨x,d,j,b,y,F,B⟩:=If E l c1 (Below.refl w1.heap.size w1) D aa L;clear r t E v e2 D aa L;go_wp2_with fail;refine(Qcl t0 _ (by omega)).mono ?_;rintro e w2 ⟨⟨v0,rfl,G⟩,g⟩;have H:=Hi G;clear G;have c:=Hi (b.o.trans (g.mono b.o.size));clear b l c1;have b:=c;clear c g;obtain⟨l,c1⟩:=Ja b.o a d.o j.o;have f:=fun o=>ce (b.o.alloc b.o.size o) a d.o
  have n:=fun o=>ce (b.o.alloc b.o.size o) a j.o
  cases v0
  .
   have z:O (¬QForm s.data.toList):=Hi (fun h=>Bool.false_ne_true (H.o.2 (by rw[y.o];exact h.1)));go_wp2;go_ret;have i:=x.o.trans (b.o.mono (Nat.le_of_lt a));exact⟨_,⟨0,by rw[Z.o];exact .inr ⟨z.o,rfl⟩,by rw[M.o];rfl⟩,⟨_,rfl,i.size,Qbc _⟩,i.alloc i.size _⟩
  .
   go_wp2_with fail;refine(Qcl t1 _ (by omega)).mono ?_;rintro e w3 ⟨⟨v1,rfl,ab⟩,g⟩;have ae:=Hi ab;clear ab;have c:=Hi (b.o.trans (g.mono b.o.size));clear b l c1 f n;have b:=c;clear c g;obtain⟨l,c1⟩:=Ja b.o a d.o j.o;have f:=fun o=>ce (b.o.alloc b.o.size o) a d.o
   have n:=fun o=>ce (b.o.alloc b.o.size o) a j.o
   cases v1
   .
    have z:O (¬QForm s.data.toList):=Hi (fun h=>Bool.false_ne_true (ae.o.2 (by rw[F.o];exact(h.2 B.o).1)));go_wp2;go_ret;have i:=x.o.trans (b.o.mono (Nat.le_of_lt a));exact⟨_,⟨0,by rw[Z.o];exact .inr ⟨z.o,rfl⟩,by rw[M.o];rfl⟩,⟨_,rfl,i.size,Qbc _⟩,i.alloc i.size _⟩
   .
    go_wp2_with fail;refine(Qgn t1 _ _ (by omega) (by decide) (ascii_of_all (by decide))).mono ?_;rintro e w4 ⟨rfl,g⟩;obtain⟨st,u⟩:=nm ((⟨(Lib.trimS t1.data.toList [48]).toArray⟩:ByteArray));rw[show (⟨#[48]⟩:ByteArray).data.toList= [48] from rfl,u];obtain⟨p,I⟩:=Ia (H.o.1 (by first|rfl|trivial)) (ae.o.1 (by first|rfl|trivial));have HI:=Hi ((Qks u).trans (Qkp t1.data.toList I.o.2));clear u;have c:=Hi (b.o.trans (g.mono b.o.size));clear b l c1 f n;have b:=c;clear c g;obtain⟨l,c1⟩:=Ja b.o a d.o j.o;have f:=fun o=>ce (b.o.alloc b.o.size o) a d.o
    have n:=fun o=>ce (b.o.alloc b.o.size o) a j.o
    by_cases u:st.toList= []
    .
     have ai:st.toList.isEmpty=true:=by simp[u]
     have z:O (¬QForm s.data.toList):=Hi (fun h=>(h.2 B.o).2 (by rw[<-F.o];exact HI.o.1 u));go_wp2;go_ret;have i:=x.o.trans (b.o.mono (Nat.le_of_lt a));exact⟨_,⟨0,by rw[Z.o];exact .inr ⟨z.o,rfl⟩,by rw[M.o];rfl⟩,⟨_,rfl,i.size,Qbc _⟩,i.alloc i.size _⟩
    .
     have ai:st.toList.isEmpty=false:=by simp[u]
     have af:=Hi (fun h=>u (HI.o.2 h));go_wp2_with fail;refine(Qcg _ t0 _ (SB.new _ _ _) (Qcn p.o) (by omega) p.o.2).mono ?_;rintro e w5 ⟨rfl,an,cn,ln,hl⟩;obtain⟨N,g⟩:=Qco hl;have P:ln.length<1099511627770:=by
      have h1:=N.num.len_dec (k:=t0.size) (by rw[Int.natAbs_natCast];have:=Qa5 _ p.o.2;simpa using this);omega
     have HN:=Hi N;clear N hl;have c:=Hi (b.o.trans (g.mono b.o.size));clear b l c1 f n;have b:=c;clear c g;obtain⟨l,c1⟩:=Ja b.o a d.o j.o;have f:=fun o=>ce (b.o.alloc b.o.size o) a d.o
     have n:=fun o=>ce (b.o.alloc b.o.size o) a j.o
     go_wp2_with fail;refine(Qbm 1 _ (by decide) (by decide)).mono ?_;rintro e w6 ⟨⟨b6,a6,aj,l6,rfl,J,C,K⟩,g⟩;have ag:=Hi (HN.o.below g);clear HN J C K;have c:=Hi (b.o.trans (g.mono b.o.size));clear b l c1 f n;have b:=c;clear c g;obtain⟨l,c1⟩:=Ja b.o a d.o j.o;have f:=fun o=>ce (b.o.alloc b.o.size o) a d.o
     have n:=fun o=>ce (b.o.alloc b.o.size o) a j.o
     go_wp2_with fail;refine(Qcg _ t1 _ (SB.new _ _ _) (Qcn I.o) (by omega) I.o.2).mono ?_;rintro e w7 ⟨rfl,ad,cd,ld,hl⟩;obtain⟨Q,g⟩:=Qco hl;have R:ld.length<1099511627770:=by
      have h1:=Q.num.len_dec (k:=t1.size) (by rw[Int.natAbs_natCast];have:=Qa5 _ I.o.2;simpa using this);omega
     obtain⟨HD,HN⟩:=Ia Q (ag.o.below g);have S:O ((0:Int)<(decVal t1.data.toList:Nat)):=Hi (Int.natCast_pos.2 (Nat.pos_of_ne_zero af.o));have T:O (mkRat ((decVal t0.data.toList:Nat):Int) ((decVal t1.data.toList:Nat):Int).natAbs=mkRat (decVal (Lib.cut s.data.toList [47]).1:Nat) (if (Lib.cut s.data.toList [47]).2.2=true then decVal (Lib.cut s.data.toList [47]).2.1 else 1)):=Hi (by rw[Int.natAbs_natCast,y.o,F.o,if_pos B.o]);clear Q hl ag;have c:=Hi (b.o.trans (g.mono b.o.size));clear b l c1 f n;have b:=c;clear c g;obtain⟨l,c1⟩:=Ja b.o a d.o j.o;have f:=fun o=>ce (b.o.alloc b.o.size o) a d.o
     have n:=fun o=>ce (b.o.alloc b.o.size o) a j.o
     go_wp2_with fail;have U:O (QForm s.data.toList):=Hi ⟨by rw[<-y.o];exact p.o,fun _=>⟨by rw[<-F.o];exact I.o,by rw[<-F.o];exact af.o⟩⟩;refine(Qck _ _ _ _ _ _ 0 _ an cn ln _ 0 _ ad cd ld _ (SB.new _ _ _) (Qab _ _ _ _ _ _ _ _) (HN.o.alloc _) (HD.o.alloc _) S.o P R).mono ?_;rintro e w8 A;have i:=x.o.trans (b.o.mono (Nat.le_of_lt a));have V:=i.size;obtain⟨HV,W⟩:=Ia A.val (Only.fresh (i.alloc i.size _) A.2.1 i.size);obtain⟨rfl,X,hr⟩:=A;clear X hr i;go_wp2;go_ret;exact⟨_,⟨_,by rw[Z.o];exact .inl ⟨U.o,T.o⟩,by rw[M.o];rfl⟩,⟨_,rfl,V,HV.o⟩,W.o⟩
 .
  have L:(Lib.cut s.data.toList [47]).2.2=false:=by simpa using L
  obtain⟨v,D⟩:=Qkq s (min 2 (s.size+1) - 1) L;obtain⟨cp,Y,ak⟩:∃cp,min 2 (s.size+1)=cp/\1<=cp:=⟨_,rfl,by omega⟩;rw[v,Y] at r;rw[v,Y];have E:Below w.heap.size w w1:=by rw[r];exact(Below.refl _ _).alloc lZ _
  have t:SB w1 w.heap.size 9 (Lib.cellsOf [s] cp):=by rw[r];exact SB.new w _ _
  have l:w1.cell? ⟨w.heap.size,0,none⟩=some (.string s):=t.cell 0;have c1:=l;have a:=t.lt;obtain⟨x,d,b,y,B⟩:=Id E l (Below.refl w1.heap.size w1) D L;clear r t E v D L Y c1;rw[show [s].length=1 from rfl];go_wp2_with fail;refine(Qcl s _ (by omega)).mono ?_;rintro e w2 ⟨⟨v0,rfl,G⟩,g⟩;have H:=Hi G;clear G;have c:=Hi (b.o.trans (g.mono b.o.size));clear b l;have b:=c;clear c g;have l:=ce b.o a d.o;have f:=fun o=>ce (b.o.alloc b.o.size o) a d.o
  cases v0
  .
   have z:O (¬QForm s.data.toList):=Hi (fun h=>Bool.false_ne_true (H.o.2 (by rw[<-y.o];exact h.1)));go_wp2;go_ret;have i:=x.o.trans (b.o.mono (Nat.le_of_lt a));exact⟨_,⟨0,by rw[Z.o];exact .inr ⟨z.o,rfl⟩,by rw[M.o];rfl⟩,⟨_,rfl,i.size,Qbc _⟩,i.alloc i.size _⟩
  .
   have p:=Hi (H.o.1 (by first|rfl|trivial));go_wp2_with fail;refine(Qcg _ s _ (SB.new _ _ _) (Qcn p.o) (by omega) p.o.2).mono ?_;rintro e w5 ⟨rfl,an,cn,ln,hl⟩;obtain⟨N,g⟩:=Qco hl;have P:ln.length<1099511627770:=by
    have h1:=N.num.len_dec (k:=s.size) (by rw[Int.natAbs_natCast];have:=Qa5 _ p.o.2;simpa using this);omega
   have ah:=Hi N;clear N hl;have c:=Hi (b.o.trans (g.mono b.o.size));clear b l f;have b:=c;clear c g;have l:=ce b.o a d.o;have f:=fun o=>ce (b.o.alloc b.o.size o) a d.o
   go_wp2_with fail;refine(Qbm 1 _ (by decide) (by decide)).mono ?_;rintro e w6 ⟨⟨b6,ad,cd,ld,rfl,J,C,K⟩,g⟩;have HN:=Hi (ah.o.below g);have Q:IntAt w6 b6 0 1 ad cd ld:=⟨by rw[C.cell];rfl,by rw[C.cell];rfl,K,C.lt⟩;have R:ld.length<1099511627770:=by
    have:=Q.num.len_bits (k:=1) (by decide);omega
   have HD:=Hi Q;have S:O ((0:Int)<1):=Hi (by decide);have T:O (mkRat ((decVal s.data.toList:Nat):Int) (1:Int).natAbs=mkRat (decVal (Lib.cut s.data.toList [47]).1:Nat) (if (Lib.cut s.data.toList [47]).2.2=true then decVal (Lib.cut s.data.toList [47]).2.1 else 1)):=Hi (by rw[y.o,B.o];rfl);clear Q ah J C K;have c:=Hi (b.o.trans (g.mono b.o.size));clear b l f;have b:=c;clear c g;have l:=ce b.o a d.o;have f:=fun o=>ce (b.o.alloc b.o.size o) a d.o
   go_wp2_with fail;have U:O (QForm s.data.toList):=Hi ⟨by rw[y.o];exact p.o,fun h=>by rw[B.o] at h;cases h⟩;refine(Qck _ _ _ _ _ _ 0 _ an cn ln _ 0 _ ad cd ld _ (SB.new _ _ _) (Qab _ _ _ _ _ _ _ _) (HN.o.alloc _) (HD.o.alloc _) S.o P R).mono ?_;rintro e w8 A;have i:=x.o.trans (b.o.mono (Nat.le_of_lt a));have V:=i.size;obtain⟨HV,W⟩:=Ia A.val (Only.fresh (i.alloc i.size _) A.2.1 i.size);obtain⟨rfl,X,hr⟩:=A;clear X hr i;go_wp2;go_ret;exact⟨_,⟨_,by rw[Z.o];exact .inl ⟨U.o,T.o⟩,by rw[M.o];rfl⟩,⟨_,rfl,V,HV.o⟩,W.o⟩
theorem Qs6(s:Vs)(m:Int)(w:Vz)(hm:w.cell? ⟨4,0,none⟩=some (.int .i64 m))(hs:s.size<=1073741824)(hp:Lib.hasPrefix s.data.toList [45]=true):
 Calls prog 33 #[.string s] w fun e w'=>∃q,QOf s.data.toList q/\NewRat w q e w':=by
 have T:=Hi hp;have h1:1<=s.size:=by
  have ag:s.data.toList.length=s.size:=by simp
  cases hl:s.data.toList with
  |nil=>rw[hl] at hp;simp[Lib.hasPrefix] at hp
  |cons c l=>rw[hl] at ag;simp at ag;omega
 obtain⟨t,ht⟩:=nm (s.extract 1 s.size);have HT:=Hi (show Lib.trimPrefix s.data.toList [45]=t.data.toList by
  rw[<-ht,Lib.extract_data];unfold Lib.trimPrefix;rw[if_pos hp,List.take_of_length_le (by simp)]
  rfl)
 have au:t.size<=1073741824:=by rw[<-ht];simp;omega
 have ao:=Hi ht;clear hp ht;go_enter func33,ntmps33;go_wp2_with fail;refine(Qkk s ⟨#[45]⟩ w).mono ?_;rw[show (⟨#[45]⟩:ByteArray).data.toList= [45] from rfl,T.o];rintro e w ⟨rfl,hw⟩;subst hw;go_wp2_with fail;rw[ao.o];clear h1;refine(Qkl t ⟨#[47]⟩ 2 m w (by omega) hm (by decide) (by decide) (by decide)).mono ?_;rintro e w1 ⟨rfl,x⟩;by_cases S:(Lib.cut t.data.toList [47]).2.2=true
 .
  obtain⟨h1,t0,t1,A,H,ah,av,aw⟩:=Qkr t S;have e2:min 2 (t.size+1)=2:=by omega
  rw[e2,A] at x;rw[e2,A];have I:Below w.heap.size w w1:=by rw[x];exact(Below.refl _ _).alloc lZ _
  have y:SB w1 w.heap.size 9 #[.string t0,.string t1]:=by rw[x];exact SB.new w _ _
  have r:w1.cell? ⟨w.heap.size,0,none⟩=some (.string t0):=y.cell 0;have c1:w1.cell? ⟨w.heap.size,1,none⟩=some (.string t1):=y.cell 1;have a:=y.lt;obtain⟨B,f,p,b,C,J,F⟩:=If I r c1 (Below.refl w1.heap.size w1) H ah S;clear x y I A e2 H ah S;go_wp2_with fail;refine(Qcl t0 _ (by omega)).mono ?_;rintro e w2 ⟨⟨v0,rfl,K⟩,j⟩;have L:=Hi K;clear K;have d:=Hi (b.o.trans (j.mono b.o.size));clear b r c1;have b:=d;clear d j;obtain⟨r,c1⟩:=Ja b.o a f.o p.o;have g:=fun o=>ce (b.o.alloc b.o.size o) a f.o
  have u:=fun o=>ce (b.o.alloc b.o.size o) a p.o
  cases v0
  .
   have D:O (¬QForm t.data.toList):=Hi (fun h=>Bool.false_ne_true (L.o.2 (by rw[C.o];exact h.1)));go_wp2;go_ret;have n:=B.o.trans (b.o.mono (Nat.le_of_lt a));exact⟨_,⟨0,by rw[HT.o];exact .inr ⟨D.o,rfl⟩,by rw[T.o];rfl⟩,⟨_,rfl,n.size,Qbc _⟩,n.alloc n.size _⟩
  .
   go_wp2_with fail;refine(Qcl t1 _ (by omega)).mono ?_;rintro e w3 ⟨⟨v1,rfl,ai⟩,j⟩;have aj:=Hi ai;clear ai;have d:=Hi (b.o.trans (j.mono b.o.size));clear b r c1 g u;have b:=d;clear d j;obtain⟨r,c1⟩:=Ja b.o a f.o p.o;have g:=fun o=>ce (b.o.alloc b.o.size o) a f.o
   have u:=fun o=>ce (b.o.alloc b.o.size o) a p.o
   cases v1
   .
    have D:O (¬QForm t.data.toList):=Hi (fun h=>Bool.false_ne_true (aj.o.2 (by rw[J.o];exact(h.2 F.o).1)));go_wp2;go_ret;have n:=B.o.trans (b.o.mono (Nat.le_of_lt a));exact⟨_,⟨0,by rw[HT.o];exact .inr ⟨D.o,rfl⟩,by rw[T.o];rfl⟩,⟨_,rfl,n.size,Qbc _⟩,n.alloc n.size _⟩
   .
    go_wp2_with fail;refine(Qgn t1 _ _ (by omega) (by decide) (ascii_of_all (by decide))).mono ?_;rintro e w4 ⟨rfl,j⟩;obtain⟨st,z⟩:=nm ((⟨(Lib.trimS t1.data.toList [48]).toArray⟩:ByteArray));rw[show (⟨#[48]⟩:ByteArray).data.toList= [48] from rfl,z];obtain⟨v,M⟩:=Ia (L.o.1 (by first|rfl|trivial)) (aj.o.1 (by first|rfl|trivial));have HI:=Hi ((Qks z).trans (Qkp t1.data.toList M.o.2));clear z;have d:=Hi (b.o.trans (j.mono b.o.size));clear b r c1 g u;have b:=d;clear d j;obtain⟨r,c1⟩:=Ja b.o a f.o p.o;have g:=fun o=>ce (b.o.alloc b.o.size o) a f.o
    have u:=fun o=>ce (b.o.alloc b.o.size o) a p.o
    by_cases z:st.toList= []
    .
     have ap:st.toList.isEmpty=true:=by simp[z]
     have D:O (¬QForm t.data.toList):=Hi (fun h=>(h.2 F.o).2 (by rw[<-J.o];exact HI.o.1 z));go_wp2;go_ret;have n:=B.o.trans (b.o.mono (Nat.le_of_lt a));exact⟨_,⟨0,by rw[HT.o];exact .inr ⟨D.o,rfl⟩,by rw[T.o];rfl⟩,⟨_,rfl,n.size,Qbc _⟩,n.alloc n.size _⟩
    .
     have ap:st.toList.isEmpty=false:=by simp[z]
     have ak:=Hi (fun h=>z (HI.o.2 h));go_wp2_with fail;refine(Qcg _ t0 _ (SB.new _ _ _) (Qcn v.o) (by omega) v.o.2).mono ?_;rintro e w5 ⟨rfl,an,cn,ln,hl⟩;obtain⟨U,j⟩:=Qco hl;have V:ln.length<1099511627770:=by
      have h1:=U.num.len_dec (k:=t0.size) (by rw[Int.natAbs_natCast];have:=Qa5 _ v.o.2;simpa using this);omega
     have HN:=Hi U;clear U hl;have d:=Hi (b.o.trans (j.mono b.o.size));clear b r c1 g u;have b:=d;clear d j;obtain⟨r,c1⟩:=Ja b.o a f.o p.o;have g:=fun o=>ce (b.o.alloc b.o.size o) a f.o
     have u:=fun o=>ce (b.o.alloc b.o.size o) a p.o
     go_wp2_with fail;refine(Qbm 1 _ (by decide) (by decide)).mono ?_;rintro e w6 ⟨⟨b6,a6,aq,l6,rfl,N,G,R⟩,j⟩;have al:=Hi (HN.o.below j);clear HN N G R;have d:=Hi (b.o.trans (j.mono b.o.size));clear b r c1 g u;have b:=d;clear d j;obtain⟨r,c1⟩:=Ja b.o a f.o p.o;have g:=fun o=>ce (b.o.alloc b.o.size o) a f.o
     have u:=fun o=>ce (b.o.alloc b.o.size o) a p.o
     go_wp2_with fail;refine(Qcg _ t1 _ (SB.new _ _ _) (Qcn M.o) (by omega) M.o.2).mono ?_;rintro e w7 ⟨rfl,ad,cd,ld,hl⟩;obtain⟨W,j⟩:=Qco hl;have X:ld.length<1099511627770:=by
      have h1:=W.num.len_dec (k:=t1.size) (by rw[Int.natAbs_natCast];have:=Qa5 _ M.o.2;simpa using this);omega
     obtain⟨HD,HN⟩:=Ia W (al.o.below j);have Y:O ((0:Int)<(decVal t1.data.toList:Nat)):=Hi (Int.natCast_pos.2 (Nat.pos_of_ne_zero ak.o));have Z:O (mkRat ((decVal t0.data.toList:Nat):Int) ((decVal t1.data.toList:Nat):Int).natAbs=mkRat (decVal (Lib.cut t.data.toList [47]).1:Nat) (if (Lib.cut t.data.toList [47]).2.2=true then decVal (Lib.cut t.data.toList [47]).2.1 else 1)):=Hi (by rw[Int.natAbs_natCast,C.o,J.o,if_pos F.o]);clear W hl al;have d:=Hi (b.o.trans (j.mono b.o.size));clear b r c1 g u;have b:=d;clear d j;obtain⟨r,c1⟩:=Ja b.o a f.o p.o;have g:=fun o=>ce (b.o.alloc b.o.size o) a f.o
     have u:=fun o=>ce (b.o.alloc b.o.size o) a p.o
     go_wp2_with fail;have aa:O (QForm t.data.toList):=Hi ⟨by rw[<-C.o];exact v.o,fun _=>⟨by rw[<-J.o];exact M.o,by rw[<-J.o];exact ak.o⟩⟩;refine(Qck _ _ _ _ _ _ 0 _ an cn ln _ 0 _ ad cd ld _ (SB.new _ _ _) (Qab _ _ _ _ _ _ _ _) (HN.o.alloc _) (HD.o.alloc _) Y.o V X).mono ?_;rintro e w8 i;have n:=B.o.trans (b.o.mono (Nat.le_of_lt a));have P:=n.size;obtain⟨HV,Q⟩:=Ia i.val (Only.fresh (n.alloc n.size _) i.2.1 n.size);obtain⟨rfl,E,hr⟩:=i;clear E hr n;go_wp2_with fail;have HQ:O (IsQ (Lib.trimPrefix s.data.toList [45]) _):=Hi (by rw[HT.o];exact .inl ⟨aa.o,Z.o⟩);refine(Qgl _ _ (4*1073741824+1) _ _ (RatVal.room HV.o) HV.o (HQ.o.fits (Nat.le_trans (Qef _ _) (by simpa using hs))) (by decide)).mono ?_;rintro e w9 i;obtain⟨ab,ae⟩:=Ia (Q.o.trans (i.2.1.below P Q.o.size)) i.val
     obtain⟨rfl,E,hr⟩:=i;clear E hr;go_wp2;go_ret;exact⟨_,⟨_,HQ.o,by rw[T.o];rfl⟩,⟨_,rfl,P,ae.o⟩,ab.o⟩
 .
  have S:(Lib.cut t.data.toList [47]).2.2=false:=by simpa using S
  obtain⟨A,H⟩:=Qkq t (min 2 (t.size+1) - 1) S;obtain⟨cp,af,ar⟩:∃cp,min 2 (t.size+1)=cp/\1<=cp:=⟨_,rfl,by omega⟩;rw[A,af] at x;rw[A,af];have I:Below w.heap.size w w1:=by rw[x];exact(Below.refl _ _).alloc lZ _
  have y:SB w1 w.heap.size 9 (Lib.cellsOf [t] cp):=by rw[x];exact SB.new w _ _
  have r:w1.cell? ⟨w.heap.size,0,none⟩=some (.string t):=y.cell 0;have c1:=r;have a:=y.lt;obtain⟨B,f,b,C,F⟩:=Id I r (Below.refl w1.heap.size w1) H S;clear x y I A H S af c1;rw[show [t].length=1 from rfl];go_wp2_with fail;refine(Qcl t _ (by omega)).mono ?_;rintro e w2 ⟨⟨v0,rfl,K⟩,j⟩;have L:=Hi K;clear K;have d:=Hi (b.o.trans (j.mono b.o.size));clear b r;have b:=d;clear d j;have r:=ce b.o a f.o;have g:=fun o=>ce (b.o.alloc b.o.size o) a f.o
  cases v0
  .
   have D:O (¬QForm t.data.toList):=Hi (fun h=>Bool.false_ne_true (L.o.2 (by rw[<-C.o];exact h.1)));go_wp2;go_ret;have n:=B.o.trans (b.o.mono (Nat.le_of_lt a));exact⟨_,⟨0,by rw[HT.o];exact .inr ⟨D.o,rfl⟩,by rw[T.o];rfl⟩,⟨_,rfl,n.size,Qbc _⟩,n.alloc n.size _⟩
  .
   have v:=Hi (L.o.1 (by first|rfl|trivial));go_wp2_with fail;refine(Qcg _ t _ (SB.new _ _ _) (Qcn v.o) (by omega) v.o.2).mono ?_;rintro e w5 ⟨rfl,an,cn,ln,hl⟩;obtain⟨U,j⟩:=Qco hl;have V:ln.length<1099511627770:=by
    have h1:=U.num.len_dec (k:=t.size) (by rw[Int.natAbs_natCast];have:=Qa5 _ v.o.2;simpa using this);omega
   have am:=Hi U;clear U hl;have d:=Hi (b.o.trans (j.mono b.o.size));clear b r g;have b:=d;clear d j;have r:=ce b.o a f.o;have g:=fun o=>ce (b.o.alloc b.o.size o) a f.o
   go_wp2_with fail;refine(Qbm 1 _ (by decide) (by decide)).mono ?_;rintro e w6 ⟨⟨b6,ad,cd,ld,rfl,N,G,R⟩,j⟩;have HN:=Hi (am.o.below j);have W:IntAt w6 b6 0 1 ad cd ld:=⟨by rw[G.cell];rfl,by rw[G.cell];rfl,R,G.lt⟩;have X:ld.length<1099511627770:=by
    have:=W.num.len_bits (k:=1) (by decide);omega
   have HD:=Hi W;have Y:O ((0:Int)<1):=Hi (by decide);have Z:O (mkRat ((decVal t.data.toList:Nat):Int) (1:Int).natAbs=mkRat (decVal (Lib.cut t.data.toList [47]).1:Nat) (if (Lib.cut t.data.toList [47]).2.2=true then decVal (Lib.cut t.data.toList [47]).2.1 else 1)):=Hi (by rw[C.o,F.o];rfl);clear W am N G R;have d:=Hi (b.o.trans (j.mono b.o.size));clear b r g;have b:=d;clear d j;have r:=ce b.o a f.o;have g:=fun o=>ce (b.o.alloc b.o.size o) a f.o
   go_wp2_with fail;have aa:O (QForm t.data.toList):=Hi ⟨by rw[C.o];exact v.o,fun h=>by rw[F.o] at h;cases h⟩;refine(Qck _ _ _ _ _ _ 0 _ an cn ln _ 0 _ ad cd ld _ (SB.new _ _ _) (Qab _ _ _ _ _ _ _ _) (HN.o.alloc _) (HD.o.alloc _) Y.o V X).mono ?_;rintro e w8 i;have n:=B.o.trans (b.o.mono (Nat.le_of_lt a));have P:=n.size;obtain⟨HV,Q⟩:=Ia i.val (Only.fresh (n.alloc n.size _) i.2.1 n.size);obtain⟨rfl,E,hr⟩:=i;clear E hr n;go_wp2_with fail;have HQ:O (IsQ (Lib.trimPrefix s.data.toList [45]) _):=Hi (by rw[HT.o];exact .inl ⟨aa.o,Z.o⟩);refine(Qgl _ _ (4*1073741824+1) _ _ (RatVal.room HV.o) HV.o (HQ.o.fits (Nat.le_trans (Qef _ _) (by simpa using hs))) (by decide)).mono ?_;rintro e w9 i;obtain⟨ab,ae⟩:=Ia (Q.o.trans (i.2.1.below P Q.o.size)) i.val;obtain⟨rfl,E,hr⟩:=i;clear E hr;go_wp2;go_ret
   exact⟨_,⟨_,HQ.o,by rw[T.o];rfl⟩,⟨_,rfl,P,ae.o⟩,ab.o⟩
theorem Qs7(s:Vs)(m:Int)(w:Vz)(a:w.cell? ⟨4,0,none⟩=some (.int .i64 m))(b:s.size<=1073741824):
 Calls prog 33 #[.string s] w fun e w'=>∃q,QOf s.data.toList q/\NewRat w q e w':=by
 cases hp:Lib.hasPrefix s.data.toList [45]
 . exact Qs5 s m w a b hp
 . exact Qs6 s m w a b hp
end Go.Proofs.YtppkmifkpjkgpaaGreatDoor
