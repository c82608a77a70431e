import Derived.Test.YtppkmifkpjkgpaaGreatDoorE04Shelf
namespace Go.Proofs.YtppkmifkpjkgpaaGreatDoor
open Go.RowKit
open Go.Proofs.Tryz
set_option linter.unusedSimpArgs false
set_option linter.unusedVariables false
set_option maxHeartbeats 8000000
set_option maxRecDepth 1000000
theorem Qkz(s p:Vs)(w:Vz):
 Calls prog 62 #[.string s,.string p] w fun e w'=>e=.returned (.bool (Lib.hasPrefix s.data.toList p.data.toList))/\w'=w:=Any.strings_HasPrefix Tryz.lays99 s p w
theorem Qk0(s a:Vs)(n:Nat)(m:Int)(w:Vz)(hs:s.size<4294967281)(c:w.cell? ⟨4,0,none⟩=some (.int .i64 m))(d:1<=a.size)(f:1<=n)(b:n<=9223372036854775807):
 Calls prog 63 #[.string s,.string a,.int .i64 n] w fun e w'=>
  e=.returned (.slice (some ⟨w.heap.size,0,none⟩) (Lib.splitB a 0 (min n (s.size+1) - 1) s).length (min n (s.size+1)))/\w'=w.alloc (.cells (Lib.cellsOf (Lib.splitB a 0 (min n (s.size+1) - 1) s) (min n (s.size+1))) 9):=Any.strings_SplitN Tryz.lays147 (by kernel_rfl) s a n m w hs c d f b
theorem Qgw(s a:Vs)(w:Vz)(hs:s.size<=9223372036854775807)(d:a.size<4294967281)(c:∀(j:Nat) b,a.data.toList[j]?=some b->b.toNat<128):
 Calls prog 65 #[.string s,.string a] w fun e w'=>e=.returned (.string ⟨(Lib.trimS s.data.toList a.data.toList).toArray⟩)/\Bl w w':=Any.strings_Trim_laid Tryz.lays160 (by kernel_rfl) s a w hs d c
theorem Qk1{p:UInt8->Bool}{l:Vu}{c:UInt8}(h:c∈ l.takeWhile p):p c=true:=by
 induction l with
 |nil=>simp at h
 |cons d l b=>
  rw[List.takeWhile_cons] at h;by_cases a:p d=true
  .
   rw[if_pos a] at h;rcases List.mem_cons.1 h with rfl|h
   . exact a
   . exact b h
  . rw[if_neg a] at h;cases h
theorem Qt0{p:UInt8->Bool}{l:Vu}(h:∀c,c∈ l->p c=true):l.dropWhile p= []:=by
 induction l with
 |nil=>rfl
 |cons d l a=>
  rw[List.dropWhile_cons,if_pos (h d (List.mem_cons_self ..))];exact a fun c b=>h c (List.mem_cons_of_mem _ b)
theorem Qk2(l a:Vu):Lib.trimS l a= []↔∀c,c∈ l->a.contains c=true:=by
 unfold Lib.trimS Lib.trimLeftS Lib.trimRightS;constructor
 .
  intro h c e;apply bC;intro f;have d:c∈ (l.reverse.dropWhile (a.contains ·)).reverse:=by
   rw[List.mem_reverse];have b:c∈ l.reverse:=List.mem_reverse.2 e;rw[<-List.takeWhile_append_dropWhile (p:=(a.contains ·)) (l:=l.reverse)] at b;rcases List.mem_append.1 b with b|b
   . have:=Qk1 (p:=(a.contains ·)) b
     exact absurd this f
   . exact b
  rw[<-List.takeWhile_append_dropWhile (p:=(a.contains ·)) (l:=(l.reverse.dropWhile (a.contains ·)).reverse),h,List.append_nil] at d;exact absurd (Qk1 (p:=(a.contains ·)) d) f
 .
  intro h;have d:l.reverse.dropWhile (a.contains ·)= []:=by
   exact Qt0 fun c e=>h c (List.mem_reverse.1 e)
  rw[d];rfl
theorem Qk3(c:UInt8):([48,49,50,51,52,53,54,55,56,57]:List UInt8).contains c=true↔48<=c.toNat/\c.toNat<=57:=by
 constructor
 .
  intro h;simp at h;rcases h with rfl|rfl|rfl|rfl|rfl|rfl|rfl|rfl|rfl|rfl<;>decide
 .
  rintro⟨a,b⟩;have:c=UInt8.ofNat c.toNat:=by simp
  rw[this];generalize c.toNat=n at*;have:n=48∨n=49∨n=50∨n=51∨n=52∨n=53∨n=54∨n=55∨n=56∨n=57:=by omega
  rcases this with rfl|rfl|rfl|rfl|rfl|rfl|rfl|rfl|rfl|rfl<;>decide
theorem Qt1(l:Vu):Lib.trimS l [48,49,50,51,52,53,54,55,56,57]= []↔AllDigits l:=by
 rw[Qk2];exact⟨fun h c a=>(Qk3 c).1 (h c a),fun h c a=>(Qk3 c).2 (h c a)⟩
theorem Qk4(l:Vu)(h:AllDigits l):Lib.trimS l [48]= []↔decVal l=0:=by
 rw[Qk2]
 induction l with
 |nil=>simp[decVal]
 |cons c l b=>
  have m:=h c (List.mem_cons_self ..);have b:=b fun d a=>h d (List.mem_cons_of_mem _ a)
  have e:decVal (c :: l)=(c.toNat - 48)*10 ^ l.length+decVal l:=by
   have:=Qb9 [c] l
   simpa [decVal] using this
  have n:0<10 ^ l.length:=Nat.pow_pos (by decide);rw[e];constructor
  .
   intro f;have g:=b.1 fun d a=>f d (List.mem_cons_of_mem _ a)
   have i:=f c (List.mem_cons_self ..);have j:c=48:=by simpa using i
   rw[g,j];simp
  .
   intro f;have g:decVal l=0:=by omega
   have i:(c.toNat - 48)*10 ^ l.length=0:=by omega
   have j:c.toNat - 48=0:=by
    rcases Nat.mul_eq_zero.1 i with h|h
    . exact h
    . omega
   have k:c=48:=by
    have:c.toNat=48:=by omega
    exact UInt8.toNat_inj.1 this
   intro d a;rcases List.mem_cons.1 a with rfl|a
   . rw[k];rfl
   . exact b.2 g d a
theorem Qt2{s a:Vs}(h:(⟨(Lib.trimS s.data.toList [48,49,50,51,52,53,54,55,56,57]).toArray⟩:ByteArray)=a):a.toList= []↔AllDigits s.data.toList:=by
 subst h;rw[Lib.toList_data];exact Qt1 _
theorem Qcp(s:Vs)(w:Vz)(hs:s.size<=1073741824):
 Calls prog 64 #[.string s] w fun e w'=>(∃v,e=.returned (.bool v)/\(v=true↔IsDig s.data.toList))/\Bl w w':=by
 have f:=Hi (Lib.toList_data s);by_cases b:s.toList= []
 .
  go_enter func64,ntmps64;go_wp2_with fail;go_ret;exact⟨⟨false,rfl,by rw[<-f.o];simp[IsDig,b]⟩,Below.refl _ _⟩
 .
  go_enter func64,ntmps64;go_wp2_with fail;refine(Qgw s _ _ (by omega) (by decide) (ascii_of_all (by decide))).mono ?_;rintro e l ⟨rfl,g⟩;have i:=Hi g;clear g;obtain⟨k,a⟩:=nm ((⟨(Lib.trimS s.data.toList [48,49,50,51,52,53,54,55,56,57]).toArray⟩:ByteArray));rw[show (⟨#[48,49,50,51,52,53,54,55,56,57]⟩:ByteArray).data.toList= [48,49,50,51,52,53,54,55,56,57] from rfl,a];have j:=Hi (Qt2 a);clear a;by_cases c:k.toList= []
  .
   go_wp2;go_ret;refine⟨⟨_,rfl,?_⟩,i.o⟩;have d:IsDig s.data.toList:=⟨by rw[<-f.o];exact b,j.o.1 c⟩;simp[b,d]
  .
   go_wp2;go_ret;refine⟨⟨_,rfl,?_⟩,i.o⟩;have d:¬IsDig s.data.toList:=fun h=>c (j.o.2 h.2)
   simp[c,d]
theorem Qk5(t:Vs)(k:Nat)(h:(Lib.cut t.data.toList [47]).2.2=false):Lib.splitB ⟨#[47]⟩ 0 k t= [t]/\(Lib.cut t.data.toList [47]).1=t.data.toList:=by
 have a:¬(0<=Lib.index t.data.toList [47]):=by
  intro b;unfold Lib.cut at h;rw[if_pos b] at h;cases h
 constructor
 .
  apply Lib.splitB_miss;have:=Lib.index_ge t.data.toList [47]
  show Lib.index t.data.toList [47]= -1
  omega
 . unfold Lib.cut
   rw[if_neg a]
theorem Qk6(t:Vs)(h:(Lib.cut t.data.toList [47]).2.2=true):1<=t.size/\∃t0 t1:Vs,Lib.splitB ⟨#[47]⟩ 0 1 t= [t0,t1]/\t0.data.toList=(Lib.cut t.data.toList [47]).1/\t1.data.toList=(Lib.cut t.data.toList [47]).2.1/\t0.size<=t.size/\t1.size<=t.size:=by
 have b:0<=Lib.index t.data.toList [47]:=by
  apply bC;intro d;unfold Lib.cut at h;rw[if_neg d] at h;cases h
 have c:=Lib.index_room t.data.toList [47] b;obtain⟨i,a⟩:∃i:Nat,Lib.index t.data.toList [47]=i:=⟨(Lib.index t.data.toList [47]).toNat,by omega⟩;have e:t.data.toList.length=t.size:=by simp
 rw[a] at c;simp at c;refine⟨by omega,t.extract 0 (i+0),t.extract (i+1) t.size,?_,?_,?_,?_,?_⟩
 . rw[Lib.splitB_hit ⟨#[47]⟩ 0 0 t i a];rfl
 .
  rw[Lib.extract_data];unfold Lib.cut;rw[if_pos b,a];simp
 .
  rw[Lib.extract_data];unfold Lib.cut;rw[if_pos b,a];simp;rw[List.take_of_length_le (by simp)]
 . simp;omega
 . simp
theorem Qbb(w:Vz):RatVal (w.alloc (.cells #[.bool false,.slice none 0 0,.bool false,.slice none 0 0] 124)) w.heap.size 0:=
 ⟨0,none,0,[],none,0,[],⟨SB.new w _ _,⟨Row.nil _ _,Num.zero _,by simp⟩,⟨Row.nil _ _,Num.zero _,by simp⟩⟩,.inr ⟨rfl,rfl⟩⟩
theorem Qcq(w:Vz):(Thing.room w.heap.size).holds (w.alloc (.cells #[.bool false,.slice none 0 0,.bool false,.slice none 0 0] 124)):=RatVal.room (Qbb w)
def NewRat(w:Vz)(q:Rat)(e:Ending)(w':Vz):Prop:=(∃b,e=.returned (.pointer (some ⟨b,0,none⟩))/\w.heap.size<=b/\RatVal w' b q)/\Bl w w'
theorem Qcr{s:Vs}(h:IsDig s.data.toList):0<s.size:=by
 have:s.data.toList.length=s.size:=by simp
 have b:s.data.toList.length≠0:=fun a=>h.1 (List.length_eq_zero_iff.1 a)
 omega
theorem Qk7{l:Vu}{a:Vs}(h:(⟨l.toArray⟩:ByteArray)=a):a.toList= []↔l= []:=by
 subst h;rw[Lib.toList_data]
theorem Qcs{w w':Vz}{X:Int}{a:Vx}{cap:Nat}{l:Vy}(h:Laid (w.alloc (.cells zeroInt 122)) w' w.heap.size 0 122 zeroInt X a cap l):IntAt w' w.heap.size 0 X a cap l/\Bl w w':=
 ⟨h.at (by simp[zeroInt]),Only.fresh (bR.alloc lZ _) h.only lZ⟩
theorem Qt3(s:Vs)(m:Int)(w:Vz)(hm:w.cell? ⟨4,0,none⟩=some (.int .i64 m))(hs:s.size<=1073741824)(hp:Lib.hasPrefix s.data.toList [45]=false):
 Calls prog 33 #[.string s] w fun e w'=>∃q,QOf s.data.toList q/\NewRat w q e w':=by
 obtain⟨N,HT⟩:=Ia hp (show Lib.trimPrefix s.data.toList [45]=s.data.toList by unfold Lib.trimPrefix;rw[hp];rfl);clear hp;go_enter func33,ntmps33;go_wp2_with fail;refine(Qkz s ⟨#[45]⟩ w).mono ?_;rw[show (⟨#[45]⟩:ByteArray).data.toList= [45] from rfl,N.o];rintro e w ⟨rfl,hw⟩;subst hw;go_wp2_with fail;refine(Qk0 s ⟨#[47]⟩ 2 m w (by omega) hm (by decide) (by decide) (by decide)).mono ?_;rintro e D ⟨rfl,r⟩;by_cases M:(Lib.cut s.data.toList [47]).2.2=true
 .
  obtain⟨h1,t0,t1,v,E,aa,al,am⟩:=Qk6 s M;have e2:min 2 (s.size+1)=2:=by omega
  rw[e2,v] at r;rw[e2,v];have F:Bl w D:=by rw[r];exact(Below.refl _ _).alloc lZ _
  have t:SB D w.heap.size 9 #[.string t0,.string t1]:=by rw[r];exact SB.new w _ _
  have l:D.cell? ⟨w.heap.size,0,none⟩=some (.string t0):=t.cell 0;have c1:D.cell? ⟨w.heap.size,1,none⟩=some (.string t1):=t.cell 1;have a:=t.lt;obtain⟨x,d,j,b,y,G,B⟩:=If F l c1 (Below.refl D.heap.size D) E aa M;clear r t F v e2 E aa M;go_wp2_with fail;refine(Qcp t0 _ (by omega)).mono ?_;rintro e w2 ⟨⟨v0,rfl,H⟩,g⟩;have I:=Hi H;clear H;have c:=Hi (b.o.trans (g.mono b.o.size));clear b l c1;have b:=c;clear c g;obtain⟨l,c1⟩:=Ja b.o a d.o j.o;have f:=fun o=>ce (b.o.alloc b.o.size o) a d.o
  have n:=fun o=>ce (b.o.alloc b.o.size o) a j.o
  cases v0
  .
   have z:O (¬QForm s.data.toList):=Hi (fun h=>Bool.false_ne_true (I.o.2 (by rw[y.o];exact h.1)));go_wp2;go_ret;have i:=x.o.trans (b.o.mono (Nat.le_of_lt a));exact⟨_,⟨0,by rw[HT.o];exact .inr ⟨z.o,rfl⟩,by rw[N.o];rfl⟩,⟨_,rfl,i.size,Qbb _⟩,i.alloc i.size _⟩
  .
   go_wp2_with fail;refine(Qcp t1 _ (by omega)).mono ?_;rintro e w3 ⟨⟨v1,rfl,ab⟩,g⟩;have ae:=Hi ab;clear ab;have c:=Hi (b.o.trans (g.mono b.o.size));clear b l c1 f n;have b:=c;clear c g;obtain⟨l,c1⟩:=Ja b.o a d.o j.o;have f:=fun o=>ce (b.o.alloc b.o.size o) a d.o
   have n:=fun o=>ce (b.o.alloc b.o.size o) a j.o
   cases v1
   .
    have z:O (¬QForm s.data.toList):=Hi (fun h=>Bool.false_ne_true (ae.o.2 (by rw[G.o];exact(h.2 B.o).1)));go_wp2;go_ret;have i:=x.o.trans (b.o.mono (Nat.le_of_lt a));exact⟨_,⟨0,by rw[HT.o];exact .inr ⟨z.o,rfl⟩,by rw[N.o];rfl⟩,⟨_,rfl,i.size,Qbb _⟩,i.alloc i.size _⟩
   .
    go_wp2_with fail;refine(Qgw t1 _ _ (by omega) (by decide) (ascii_of_all (by decide))).mono ?_;rintro e w4 ⟨rfl,g⟩;obtain⟨st,u⟩:=nm ((⟨(Lib.trimS t1.data.toList [48]).toArray⟩:ByteArray));rw[show (⟨#[48]⟩:ByteArray).data.toList= [48] from rfl,u];obtain⟨p,J⟩:=Ia (I.o.1 (by first|rfl|trivial)) (ae.o.1 (by first|rfl|trivial));have HI:=Hi ((Qk7 u).trans (Qk4 t1.data.toList J.o.2));clear u;have c:=Hi (b.o.trans (g.mono b.o.size));clear b l c1 f n;have b:=c;clear c g;obtain⟨l,c1⟩:=Ja b.o a d.o j.o;have f:=fun o=>ce (b.o.alloc b.o.size o) a d.o
    have n:=fun o=>ce (b.o.alloc b.o.size o) a j.o
    by_cases u:st.toList= []
    .
     have ai:st.toList.isEmpty=true:=by simp[u]
     have z:O (¬QForm s.data.toList):=Hi (fun h=>(h.2 B.o).2 (by rw[<-G.o];exact HI.o.1 u));go_wp2;go_ret;have i:=x.o.trans (b.o.mono (Nat.le_of_lt a));exact⟨_,⟨0,by rw[HT.o];exact .inr ⟨z.o,rfl⟩,by rw[N.o];rfl⟩,⟨_,rfl,i.size,Qbb _⟩,i.alloc i.size _⟩
    .
     have ai:st.toList.isEmpty=false:=by simp[u]
     have af:=Hi (fun h=>u (HI.o.2 h));go_wp2_with fail;refine(Qce _ t0 _ (SB.new _ _ _) (Qcr p.o) (by omega) p.o.2).mono ?_;rintro e w5 ⟨rfl,an,cn,ln,hl⟩;obtain⟨P,g⟩:=Qcs hl;have Q:ln.length<1099511627770:=by
      have h1:=P.num.len_dec (k:=t0.size) (by rw[Int.natAbs_natCast];have:=Qa3 _ p.o.2;simpa using this);omega
     have HN:=Hi P;clear P hl;have c:=Hi (b.o.trans (g.mono b.o.size));clear b l c1 f n;have b:=c;clear c g;obtain⟨l,c1⟩:=Ja b.o a d.o j.o;have f:=fun o=>ce (b.o.alloc b.o.size o) a d.o
     have n:=fun o=>ce (b.o.alloc b.o.size o) a j.o
     go_wp2_with fail;refine(Qbk 1 _ (by decide) (by decide)).mono ?_;rintro e w6 ⟨⟨b6,a6,aj,l6,rfl,K,C,L⟩,g⟩;have ag:=Hi (HN.o.below g);clear HN K C L;have c:=Hi (b.o.trans (g.mono b.o.size));clear b l c1 f n;have b:=c;clear c g;obtain⟨l,c1⟩:=Ja b.o a d.o j.o;have f:=fun o=>ce (b.o.alloc b.o.size o) a d.o
     have n:=fun o=>ce (b.o.alloc b.o.size o) a j.o
     go_wp2_with fail;refine(Qce _ t1 _ (SB.new _ _ _) (Qcr J.o) (by omega) J.o.2).mono ?_;rintro e w7 ⟨rfl,ad,cd,ld,hl⟩;obtain⟨R,g⟩:=Qcs hl;have S:ld.length<1099511627770:=by
      have h1:=R.num.len_dec (k:=t1.size) (by rw[Int.natAbs_natCast];have:=Qa3 _ J.o.2;simpa using this);omega
     obtain⟨HD,HN⟩:=Ia R (ag.o.below g);have T:O ((0:Int)<(decVal t1.data.toList:Nat)):=Hi (Int.natCast_pos.2 (Nat.pos_of_ne_zero af.o));have U:O (mkRat ((decVal t0.data.toList:Nat):Int) ((decVal t1.data.toList:Nat):Int).natAbs=mkRat (decVal (Lib.cut s.data.toList [47]).1:Nat) (if (Lib.cut s.data.toList [47]).2.2=true then decVal (Lib.cut s.data.toList [47]).2.1 else 1)):=Hi (by rw[Int.natAbs_natCast,y.o,G.o,if_pos B.o]);clear R hl ag;have c:=Hi (b.o.trans (g.mono b.o.size));clear b l c1 f n;have b:=c;clear c g;obtain⟨l,c1⟩:=Ja b.o a d.o j.o;have f:=fun o=>ce (b.o.alloc b.o.size o) a d.o
     have n:=fun o=>ce (b.o.alloc b.o.size o) a j.o
     go_wp2_with fail;have V:O (QForm s.data.toList):=Hi ⟨by rw[<-y.o];exact p.o,fun _=>⟨by rw[<-G.o];exact J.o,by rw[<-G.o];exact af.o⟩⟩;refine(Qcn _ _ _ _ _ _ 0 _ an cn ln _ 0 _ ad cd ld _ (SB.new _ _ _) (Qab _ _ _ _ _ _ _ _) (HN.o.alloc _) (HD.o.alloc _) T.o Q S).mono ?_;rintro e w8 A;have i:=x.o.trans (b.o.mono (Nat.le_of_lt a));have W:=i.size;obtain⟨HV,X⟩:=Ia A.val (Only.fresh (i.alloc i.size _) A.2.1 i.size);obtain⟨rfl,Y,hr⟩:=A;clear Y hr i;go_wp2;go_ret;exact⟨_,⟨_,by rw[HT.o];exact .inl ⟨V.o,U.o⟩,by rw[N.o];rfl⟩,⟨_,rfl,W,HV.o⟩,X.o⟩
 .
  have M:(Lib.cut s.data.toList [47]).2.2=false:=by simpa using M
  obtain⟨v,E⟩:=Qk5 s (min 2 (s.size+1) - 1) M;obtain⟨cp,Z,ak⟩:∃cp,min 2 (s.size+1)=cp/\1<=cp:=⟨_,rfl,by omega⟩;rw[v,Z] at r;rw[v,Z];have F:Bl w D:=by rw[r];exact(Below.refl _ _).alloc lZ _
  have t:SB D w.heap.size 9 (Lib.cellsOf [s] cp):=by rw[r];exact SB.new w _ _
  have l:D.cell? ⟨w.heap.size,0,none⟩=some (.string s):=t.cell 0;have c1:=l;have a:=t.lt;obtain⟨x,d,b,y,B⟩:=Id F l (Below.refl D.heap.size D) E M;clear r t F v E M Z c1;rw[show [s].length=1 from rfl];go_wp2_with fail;refine(Qcp s _ (by omega)).mono ?_;rintro e w2 ⟨⟨v0,rfl,H⟩,g⟩;have I:=Hi H;clear H;have c:=Hi (b.o.trans (g.mono b.o.size));clear b l;have b:=c;clear c g;have l:=ce b.o a d.o;have f:=fun o=>ce (b.o.alloc b.o.size o) a d.o
  cases v0
  .
   have z:O (¬QForm s.data.toList):=Hi (fun h=>Bool.false_ne_true (I.o.2 (by rw[<-y.o];exact h.1)));go_wp2;go_ret;have i:=x.o.trans (b.o.mono (Nat.le_of_lt a));exact⟨_,⟨0,by rw[HT.o];exact .inr ⟨z.o,rfl⟩,by rw[N.o];rfl⟩,⟨_,rfl,i.size,Qbb _⟩,i.alloc i.size _⟩
  .
   have p:=Hi (I.o.1 (by first|rfl|trivial));go_wp2_with fail;refine(Qce _ s _ (SB.new _ _ _) (Qcr p.o) (by omega) p.o.2).mono ?_;rintro e w5 ⟨rfl,an,cn,ln,hl⟩;obtain⟨P,g⟩:=Qcs hl;have Q:ln.length<1099511627770:=by
    have h1:=P.num.len_dec (k:=s.size) (by rw[Int.natAbs_natCast];have:=Qa3 _ p.o.2;simpa using this);omega
   have ah:=Hi P;clear P hl;have c:=Hi (b.o.trans (g.mono b.o.size));clear b l f;have b:=c;clear c g;have l:=ce b.o a d.o;have f:=fun o=>ce (b.o.alloc b.o.size o) a d.o
   go_wp2_with fail;refine(Qbk 1 _ (by decide) (by decide)).mono ?_;rintro e w6 ⟨⟨b6,ad,cd,ld,rfl,K,C,L⟩,g⟩;have HN:=Hi (ah.o.below g);have R:IntAt w6 b6 0 1 ad cd ld:=⟨by rw[C.cell];rfl,by rw[C.cell];rfl,L,C.lt⟩;have S:ld.length<1099511627770:=by
    have:=R.num.len_bits (k:=1) (by decide);omega
   have HD:=Hi R;have T:O ((0:Int)<1):=Hi (by decide);have U:O (mkRat ((decVal s.data.toList:Nat):Int) (1:Int).natAbs=mkRat (decVal (Lib.cut s.data.toList [47]).1:Nat) (if (Lib.cut s.data.toList [47]).2.2=true then decVal (Lib.cut s.data.toList [47]).2.1 else 1)):=Hi (by rw[y.o,B.o];rfl);clear R ah K C L;have c:=Hi (b.o.trans (g.mono b.o.size));clear b l f;have b:=c;clear c g;have l:=ce b.o a d.o;have f:=fun o=>ce (b.o.alloc b.o.size o) a d.o
   go_wp2_with fail;have V:O (QForm s.data.toList):=Hi ⟨by rw[y.o];exact p.o,fun h=>by rw[B.o] at h;cases h⟩;refine(Qcn _ _ _ _ _ _ 0 _ an cn ln _ 0 _ ad cd ld _ (SB.new _ _ _) (Qab _ _ _ _ _ _ _ _) (HN.o.alloc _) (HD.o.alloc _) T.o Q S).mono ?_;rintro e w8 A;have i:=x.o.trans (b.o.mono (Nat.le_of_lt a));have W:=i.size;obtain⟨HV,X⟩:=Ia A.val (Only.fresh (i.alloc i.size _) A.2.1 i.size);obtain⟨rfl,Y,hr⟩:=A;clear Y hr i;go_wp2;go_ret;exact⟨_,⟨_,by rw[HT.o];exact .inl ⟨V.o,U.o⟩,by rw[N.o];rfl⟩,⟨_,rfl,W,HV.o⟩,X.o⟩
theorem Qt4(s:Vs)(m:Int)(w:Vz)(hm:w.cell? ⟨4,0,none⟩=some (.int .i64 m))(hs:s.size<=1073741824)(hp:Lib.hasPrefix s.data.toList [45]=true):
 Calls prog 33 #[.string s] w fun e w'=>∃q,QOf s.data.toList q/\NewRat w q e w':=by
 have U:=Hi hp;have h1:1<=s.size:=by
  have ah:s.data.toList.length=s.size:=by simp
  cases hl:s.data.toList with
  |nil=>rw[hl] at hp;simp[Lib.hasPrefix] at hp
  |cons c l=>rw[hl] at ah;simp at ah;omega
 obtain⟨t,ht⟩:=nm (s.extract 1 s.size);have HT:=Hi (show Lib.trimPrefix s.data.toList [45]=t.data.toList by
  rw[<-ht,Lib.extract_data];unfold Lib.trimPrefix;rw[if_pos hp,List.take_of_length_le (by simp)]
  rfl)
 have av:t.size<=1073741824:=by rw[<-ht];simp;omega
 have ap:=Hi ht;clear hp ht;go_enter func33,ntmps33;go_wp2_with fail;refine(Qkz s ⟨#[45]⟩ w).mono ?_;rw[show (⟨#[45]⟩:ByteArray).data.toList= [45] from rfl,U.o];rintro e w ⟨rfl,hw⟩;subst hw;go_wp2_with fail;rw[ap.o];clear h1;refine(Qk0 t ⟨#[47]⟩ 2 m w (by omega) hm (by decide) (by decide) (by decide)).mono ?_;rintro e H ⟨rfl,x⟩;by_cases T:(Lib.cut t.data.toList [47]).2.2=true
 .
  obtain⟨h1,t0,t1,A,I,ai,aw,ax⟩:=Qk6 t T;have e2:min 2 (t.size+1)=2:=by omega
  rw[e2,A] at x;rw[e2,A];have J:Bl w H:=by rw[x];exact(Below.refl _ _).alloc lZ _
  have y:SB H w.heap.size 9 #[.string t0,.string t1]:=by rw[x];exact SB.new w _ _
  have r:H.cell? ⟨w.heap.size,0,none⟩=some (.string t0):=y.cell 0;have c1:H.cell? ⟨w.heap.size,1,none⟩=some (.string t1):=y.cell 1;have a:=y.lt;obtain⟨B,f,p,b,C,K,F⟩:=If J r c1 (Below.refl H.heap.size H) I ai T;clear x y J A e2 I ai T;go_wp2_with fail;refine(Qcp t0 _ (by omega)).mono ?_;rintro e w2 ⟨⟨v0,rfl,L⟩,j⟩;have M:=Hi L;clear L;have d:=Hi (b.o.trans (j.mono b.o.size));clear b r c1;have b:=d;clear d j;obtain⟨r,c1⟩:=Ja b.o a f.o p.o;have g:=fun o=>ce (b.o.alloc b.o.size o) a f.o
  have u:=fun o=>ce (b.o.alloc b.o.size o) a p.o
  cases v0
  .
   have D:O (¬QForm t.data.toList):=Hi (fun h=>Bool.false_ne_true (M.o.2 (by rw[C.o];exact h.1)));go_wp2;go_ret;have n:=B.o.trans (b.o.mono (Nat.le_of_lt a));exact⟨_,⟨0,by rw[HT.o];exact .inr ⟨D.o,rfl⟩,by rw[U.o];rfl⟩,⟨_,rfl,n.size,Qbb _⟩,n.alloc n.size _⟩
  .
   go_wp2_with fail;refine(Qcp t1 _ (by omega)).mono ?_;rintro e w3 ⟨⟨v1,rfl,aj⟩,j⟩;have ak:=Hi aj;clear aj;have d:=Hi (b.o.trans (j.mono b.o.size));clear b r c1 g u;have b:=d;clear d j;obtain⟨r,c1⟩:=Ja b.o a f.o p.o;have g:=fun o=>ce (b.o.alloc b.o.size o) a f.o
   have u:=fun o=>ce (b.o.alloc b.o.size o) a p.o
   cases v1
   .
    have D:O (¬QForm t.data.toList):=Hi (fun h=>Bool.false_ne_true (ak.o.2 (by rw[K.o];exact(h.2 F.o).1)));go_wp2;go_ret;have n:=B.o.trans (b.o.mono (Nat.le_of_lt a));exact⟨_,⟨0,by rw[HT.o];exact .inr ⟨D.o,rfl⟩,by rw[U.o];rfl⟩,⟨_,rfl,n.size,Qbb _⟩,n.alloc n.size _⟩
   .
    go_wp2_with fail;refine(Qgw t1 _ _ (by omega) (by decide) (ascii_of_all (by decide))).mono ?_;rintro e w4 ⟨rfl,j⟩;obtain⟨st,z⟩:=nm ((⟨(Lib.trimS t1.data.toList [48]).toArray⟩:ByteArray));rw[show (⟨#[48]⟩:ByteArray).data.toList= [48] from rfl,z];obtain⟨v,N⟩:=Ia (M.o.1 (by first|rfl|trivial)) (ak.o.1 (by first|rfl|trivial));have HI:=Hi ((Qk7 z).trans (Qk4 t1.data.toList N.o.2));clear z;have d:=Hi (b.o.trans (j.mono b.o.size));clear b r c1 g u;have b:=d;clear d j;obtain⟨r,c1⟩:=Ja b.o a f.o p.o;have g:=fun o=>ce (b.o.alloc b.o.size o) a f.o
    have u:=fun o=>ce (b.o.alloc b.o.size o) a p.o
    by_cases z:st.toList= []
    .
     have aq:st.toList.isEmpty=true:=by simp[z]
     have D:O (¬QForm t.data.toList):=Hi (fun h=>(h.2 F.o).2 (by rw[<-K.o];exact HI.o.1 z));go_wp2;go_ret;have n:=B.o.trans (b.o.mono (Nat.le_of_lt a));exact⟨_,⟨0,by rw[HT.o];exact .inr ⟨D.o,rfl⟩,by rw[U.o];rfl⟩,⟨_,rfl,n.size,Qbb _⟩,n.alloc n.size _⟩
    .
     have aq:st.toList.isEmpty=false:=by simp[z]
     have al:=Hi (fun h=>z (HI.o.2 h));go_wp2_with fail;refine(Qce _ t0 _ (SB.new _ _ _) (Qcr v.o) (by omega) v.o.2).mono ?_;rintro e w5 ⟨rfl,an,cn,ln,hl⟩;obtain⟨V,j⟩:=Qcs hl;have W:ln.length<1099511627770:=by
      have h1:=V.num.len_dec (k:=t0.size) (by rw[Int.natAbs_natCast];have:=Qa3 _ v.o.2;simpa using this);omega
     have HN:=Hi V;clear V hl;have d:=Hi (b.o.trans (j.mono b.o.size));clear b r c1 g u;have b:=d;clear d j;obtain⟨r,c1⟩:=Ja b.o a f.o p.o;have g:=fun o=>ce (b.o.alloc b.o.size o) a f.o
     have u:=fun o=>ce (b.o.alloc b.o.size o) a p.o
     go_wp2_with fail;refine(Qbk 1 _ (by decide) (by decide)).mono ?_;rintro e w6 ⟨⟨b6,a6,ar,l6,rfl,P,G,S⟩,j⟩;have am:=Hi (HN.o.below j);clear HN P G S;have d:=Hi (b.o.trans (j.mono b.o.size));clear b r c1 g u;have b:=d;clear d j;obtain⟨r,c1⟩:=Ja b.o a f.o p.o;have g:=fun o=>ce (b.o.alloc b.o.size o) a f.o
     have u:=fun o=>ce (b.o.alloc b.o.size o) a p.o
     go_wp2_with fail;refine(Qce _ t1 _ (SB.new _ _ _) (Qcr N.o) (by omega) N.o.2).mono ?_;rintro e w7 ⟨rfl,ad,cd,ld,hl⟩;obtain⟨X,j⟩:=Qcs hl;have Y:ld.length<1099511627770:=by
      have h1:=X.num.len_dec (k:=t1.size) (by rw[Int.natAbs_natCast];have:=Qa3 _ N.o.2;simpa using this);omega
     obtain⟨HD,HN⟩:=Ia X (am.o.below j);have Z:O ((0:Int)<(decVal t1.data.toList:Nat)):=Hi (Int.natCast_pos.2 (Nat.pos_of_ne_zero al.o));have aa:O (mkRat ((decVal t0.data.toList:Nat):Int) ((decVal t1.data.toList:Nat):Int).natAbs=mkRat (decVal (Lib.cut t.data.toList [47]).1:Nat) (if (Lib.cut t.data.toList [47]).2.2=true then decVal (Lib.cut t.data.toList [47]).2.1 else 1)):=Hi (by rw[Int.natAbs_natCast,C.o,K.o,if_pos F.o]);clear X hl am;have d:=Hi (b.o.trans (j.mono b.o.size));clear b r c1 g u;have b:=d;clear d j;obtain⟨r,c1⟩:=Ja b.o a f.o p.o;have g:=fun o=>ce (b.o.alloc b.o.size o) a f.o
     have u:=fun o=>ce (b.o.alloc b.o.size o) a p.o
     go_wp2_with fail;have ab:O (QForm t.data.toList):=Hi ⟨by rw[<-C.o];exact v.o,fun _=>⟨by rw[<-K.o];exact N.o,by rw[<-K.o];exact al.o⟩⟩;refine(Qcn _ _ _ _ _ _ 0 _ an cn ln _ 0 _ ad cd ld _ (SB.new _ _ _) (Qab _ _ _ _ _ _ _ _) (HN.o.alloc _) (HD.o.alloc _) Z.o W Y).mono ?_;rintro e w8 i;have n:=B.o.trans (b.o.mono (Nat.le_of_lt a));have Q:=n.size;obtain⟨HV,R⟩:=Ia i.val (Only.fresh (n.alloc n.size _) i.2.1 n.size);obtain⟨rfl,E,hr⟩:=i;clear E hr n;go_wp2_with fail;have HQ:O (IsQ (Lib.trimPrefix s.data.toList [45]) _):=Hi (by rw[HT.o];exact .inl ⟨ab.o,aa.o⟩);refine(Qgt _ _ (4*1073741824+1) _ _ (RatVal.room HV.o) HV.o (HQ.o.fits (Nat.le_trans (Qei _ _) (by simpa using hs))) (by decide)).mono ?_;rintro e w9 i;obtain⟨ae,af⟩:=Ia (R.o.trans (i.2.1.below Q R.o.size)) i.val
     obtain⟨rfl,E,hr⟩:=i;clear E hr;go_wp2;go_ret;exact⟨_,⟨_,HQ.o,by rw[U.o];rfl⟩,⟨_,rfl,Q,af.o⟩,ae.o⟩
 .
  have T:(Lib.cut t.data.toList [47]).2.2=false:=by simpa using T
  obtain⟨A,I⟩:=Qk5 t (min 2 (t.size+1) - 1) T;obtain⟨cp,ag,au⟩:∃cp,min 2 (t.size+1)=cp/\1<=cp:=⟨_,rfl,by omega⟩;rw[A,ag] at x;rw[A,ag];have J:Bl w H:=by rw[x];exact(Below.refl _ _).alloc lZ _
  have y:SB H w.heap.size 9 (Lib.cellsOf [t] cp):=by rw[x];exact SB.new w _ _
  have r:H.cell? ⟨w.heap.size,0,none⟩=some (.string t):=y.cell 0;have c1:=r;have a:=y.lt;obtain⟨B,f,b,C,F⟩:=Id J r (Below.refl H.heap.size H) I T;clear x y J A I T ag c1;rw[show [t].length=1 from rfl];go_wp2_with fail;refine(Qcp t _ (by omega)).mono ?_;rintro e w2 ⟨⟨v0,rfl,L⟩,j⟩;have M:=Hi L;clear L;have d:=Hi (b.o.trans (j.mono b.o.size));clear b r;have b:=d;clear d j;have r:=ce b.o a f.o;have g:=fun o=>ce (b.o.alloc b.o.size o) a f.o
  cases v0
  .
   have D:O (¬QForm t.data.toList):=Hi (fun h=>Bool.false_ne_true (M.o.2 (by rw[<-C.o];exact h.1)));go_wp2;go_ret;have n:=B.o.trans (b.o.mono (Nat.le_of_lt a));exact⟨_,⟨0,by rw[HT.o];exact .inr ⟨D.o,rfl⟩,by rw[U.o];rfl⟩,⟨_,rfl,n.size,Qbb _⟩,n.alloc n.size _⟩
  .
   have v:=Hi (M.o.1 (by first|rfl|trivial));go_wp2_with fail;refine(Qce _ t _ (SB.new _ _ _) (Qcr v.o) (by omega) v.o.2).mono ?_;rintro e w5 ⟨rfl,an,cn,ln,hl⟩;obtain⟨V,j⟩:=Qcs hl;have W:ln.length<1099511627770:=by
    have h1:=V.num.len_dec (k:=t.size) (by rw[Int.natAbs_natCast];have:=Qa3 _ v.o.2;simpa using this);omega
   have ao:=Hi V;clear V hl;have d:=Hi (b.o.trans (j.mono b.o.size));clear b r g;have b:=d;clear d j;have r:=ce b.o a f.o;have g:=fun o=>ce (b.o.alloc b.o.size o) a f.o
   go_wp2_with fail;refine(Qbk 1 _ (by decide) (by decide)).mono ?_;rintro e w6 ⟨⟨b6,ad,cd,ld,rfl,P,G,S⟩,j⟩;have HN:=Hi (ao.o.below j);have X:IntAt w6 b6 0 1 ad cd ld:=⟨by rw[G.cell];rfl,by rw[G.cell];rfl,S,G.lt⟩;have Y:ld.length<1099511627770:=by
    have:=X.num.len_bits (k:=1) (by decide);omega
   have HD:=Hi X;have Z:O ((0:Int)<1):=Hi (by decide);have aa:O (mkRat ((decVal t.data.toList:Nat):Int) (1:Int).natAbs=mkRat (decVal (Lib.cut t.data.toList [47]).1:Nat) (if (Lib.cut t.data.toList [47]).2.2=true then decVal (Lib.cut t.data.toList [47]).2.1 else 1)):=Hi (by rw[C.o,F.o];rfl);clear X ao P G S;have d:=Hi (b.o.trans (j.mono b.o.size));clear b r g;have b:=d;clear d j;have r:=ce b.o a f.o;have g:=fun o=>ce (b.o.alloc b.o.size o) a f.o
   go_wp2_with fail;have ab:O (QForm t.data.toList):=Hi ⟨by rw[C.o];exact v.o,fun h=>by rw[F.o] at h;cases h⟩;refine(Qcn _ _ _ _ _ _ 0 _ an cn ln _ 0 _ ad cd ld _ (SB.new _ _ _) (Qab _ _ _ _ _ _ _ _) (HN.o.alloc _) (HD.o.alloc _) Z.o W Y).mono ?_;rintro e w8 i;have n:=B.o.trans (b.o.mono (Nat.le_of_lt a));have Q:=n.size;obtain⟨HV,R⟩:=Ia i.val (Only.fresh (n.alloc n.size _) i.2.1 n.size);obtain⟨rfl,E,hr⟩:=i;clear E hr n;go_wp2_with fail;have HQ:O (IsQ (Lib.trimPrefix s.data.toList [45]) _):=Hi (by rw[HT.o];exact .inl ⟨ab.o,aa.o⟩);refine(Qgt _ _ (4*1073741824+1) _ _ (RatVal.room HV.o) HV.o (HQ.o.fits (Nat.le_trans (Qei _ _) (by simpa using hs))) (by decide)).mono ?_;rintro e w9 i;obtain⟨ae,af⟩:=Ia (R.o.trans (i.2.1.below Q R.o.size)) i.val;obtain⟨rfl,E,hr⟩:=i;clear E hr;go_wp2;go_ret
   exact⟨_,⟨_,HQ.o,by rw[U.o];rfl⟩,⟨_,rfl,Q,af.o⟩,ae.o⟩
theorem Qt5(s:Vs)(m:Int)(w:Vz)(a:w.cell? ⟨4,0,none⟩=some (.int .i64 m))(hs:s.size<=1073741824):
 Calls prog 33 #[.string s] w fun e w'=>∃q,QOf s.data.toList q/\NewRat w q e w':=by
 cases hp:Lib.hasPrefix s.data.toList [45]
 . exact Qt3 s m w a hs hp
 . exact Qt4 s m w a hs hp
theorem RatOk.new{w w':Vz}{q:Rat}{e:Ending}(h:RatOk (w.alloc (.cells #[.bool false,.slice none 0 0,.bool false,.slice none 0 0] 124)) w.heap.size q e w'):NewRat w q e w':=
 ⟨⟨_,h.1,Nat.le_refl _,h.val⟩,Only.fresh (bR.alloc lZ _) h.2.1 lZ⟩
theorem RatVal.alloc{w:Vz}{b:Nat}{q:Rat}(h:RatVal w b q)(o:Obj):RatVal (w.alloc o) b q:=h.below (bR.alloc lZ _)
theorem Qt6(bx b j k:Nat)(p q:Rat)(w:Vz)(d:RatVal w bx p)(f:RatVal w b q)(g:Fits p j)(h:Fits q k)(i:j+k<274877906000):
 Calls prog 94 #[.pointer (some ⟨bx,0,none⟩),.pointer (some ⟨b,0,none⟩)] w (NewRat w (p+q)):=by
 have l:=Hi (Qs1 w.heap.size bx b j k p q _ (Qcq w) (d.alloc _) (f.alloc _) g h i );clear d f g h i;go_enter func94,ntmps94;go_wp2_with fail;refine l.o.mono ?_;rintro e r a;have m:=Hi (RatOk.new a);obtain⟨rfl,c,n⟩:=a;clear c n l;go_wp2;go_ret;exact m.o
theorem Qt7(bx b j k:Nat)(p q:Rat)(w:Vz)(d:RatVal w bx p)(f:RatVal w b q)(g:Fits p j)(h:Fits q k)(i:j+k<274877906000):
 Calls prog 90 #[.pointer (some ⟨bx,0,none⟩),.pointer (some ⟨b,0,none⟩)] w (NewRat w (p - q)):=by
 have l:=Hi (Qs2 w.heap.size bx b j k p q _ (Qcq w) (d.alloc _) (f.alloc _) g h i );clear d f g h i;go_enter func90,ntmps90;go_wp2_with fail;refine l.o.mono ?_;rintro e r a;have m:=Hi (RatOk.new a);obtain⟨rfl,c,n⟩:=a;clear c n l;go_wp2;go_ret;exact m.o
theorem Qt8(bx b j k:Nat)(p q:Rat)(w:Vz)(d:RatVal w bx p)(f:RatVal w b q)(g:Fits p j)(h:Fits q k)(i:j+k<274877906000):
 Calls prog 91 #[.pointer (some ⟨bx,0,none⟩),.pointer (some ⟨b,0,none⟩)] w (NewRat w (p*q)):=by
 have l:=Hi (Qs8 w.heap.size bx b j k p q _ (Qcq w) (d.alloc _) (f.alloc _) g h i );clear d f g h i;go_enter func91,ntmps91;go_wp2_with fail;refine l.o.mono ?_;rintro e r a;have m:=Hi (RatOk.new a);obtain⟨rfl,c,n⟩:=a;clear c n l;go_wp2;go_ret;exact m.o
theorem Qt9(bx j:Nat)(p:Rat)(w:Vz)(c:RatVal w bx p)(d:Fits p j)(g:j<274877906000):
 Calls prog 50 #[.pointer (some ⟨bx,0,none⟩)] w (NewRat w (-p)):=by
 have f:=Hi (Qgt w.heap.size bx j p _ (Qcq w) (c.alloc _) d (by omega));clear c d g;go_enter func50,ntmps50;go_wp2_with fail;refine f.o.mono ?_;rintro e k a;have h:=Hi (RatOk.new a);obtain⟨rfl,b,i⟩:=a;clear b i f;go_wp2;go_ret;exact h.o
theorem ref_N(x:Nat)(w:Vz)(d:x<1000000):
 Calls prog 92 #[.int .i64 x] w (NewRat w (x:Rat)):=by
 have c:=Hi (Qtt w.heap.size x _ (Qcq w) d);go_enter func92,ntmps92;go_wp2_with fail;refine c.o.mono ?_;rintro e h a;have f:=Hi (RatOk.new a);obtain⟨rfl,b,g⟩:=a;clear b g c;go_wp2;go_ret;exact f.o
theorem Qbr{a b j k:Nat}(c:a<2 ^ j)(d:b<2 ^ k):a*b<2 ^ (j+k):=by rw[Nat.pow_add];exact Nat.mul_lt_mul'' c d
theorem Fits.mul{p q:Rat}{j k:Nat}(h:Fits p j)(a:Fits q k)(b:0<j):Fits (p*q) (j+k):=by
 rw[<-Qgq];refine Fits.mk ?_ ?_ (by omega)
 . rw[Int.natAbs_mul];exact Qbr h.1 a.1
 . rw[Int.natAbs_mul];exact Qbr h.2 a.2
theorem Fits.add{p q:Rat}{j k:Nat}(h:Fits p j)(a:Fits q k):Fits (p+q) (j+k+1):=by
 rw[<-Qej];have d:=Qbr h.1 a.2;have b:=Qbr a.1 h.2;have e:(2:Nat) ^ (j+k+1)=2 ^ (j+k)*2:=Nat.pow_succ _ _;rw[Nat.add_comm k j] at b;refine Fits.mk ?_ ?_ (by omega)
 .
  have c:=Int.natAbs_add_le (p.num*(q.den:Int)) (q.num*(p.den:Int));rw[Int.natAbs_mul,Int.natAbs_mul,Int.natAbs_natCast,Int.natAbs_natCast] at c;omega
 .
  rw[Int.natAbs_mul,Int.natAbs_natCast,Int.natAbs_natCast];have:=Qbr h.2 a.2;omega
theorem Fits.sub{p q:Rat}{j k:Nat}(h:Fits p j)(a:Fits q k):Fits (p - q) (j+k+1):=by
 rw[Rat.sub_eq_add_neg];exact h.add a.neg
theorem Fits.quo{p q:Rat}{j k:Nat}(h:Fits p j)(a:Fits q k)(c:0<j)(b:0<q.num):Fits (p / q) (j+k):=by
 rw[<-Qgr p q b];refine Fits.mk ?_ ?_ (by omega)
 . rw[Int.natAbs_mul];exact Qbr h.1 a.2
 . rw[Int.natAbs_mul];exact Qbr h.2 a.1
structure RBag (w0 w:Vz) (L:List (Nat × Rat × Nat)):Prop where
 base:Bl w0 w
 glob:∃m,w.cell? ⟨4,0,none⟩=some (.int .i64 m)
 ts:∀t,t∈ L->RatVal w t.1 t.2.1/\Fits t.2.1 t.2.2/\0<t.2.2
theorem RBag.start{w:Vz}(h:∃m,w.cell? ⟨4,0,none⟩=some (.int .i64 m)):RBag w w []:=⟨Below.refl _ _,h,fun t a=>by cases a⟩
theorem RBag.below{w0 w w':Vz}{L:List (Nat × Rat × Nat)}(h:RBag w0 w L)(a:Bl w w'):RBag w0 w' L:=by
 refine⟨h.base.trans (a.mono h.base.size),?_,fun t b=>⟨(h.ts t b).1.below a,(h.ts t b).2⟩⟩;obtain⟨m,c⟩:=h.glob;exact⟨m,ce a (World.block_lt_of_cell? _ _ c) c⟩
theorem RBag.drew{w0 w:Vz}{L:List (Nat × Rat × Nat)}(h:RBag w0 w L):RBag w0 w.drew L:=h.below bR.drew
theorem RBag.put{w0 w:Vz}{L:List (Nat × Rat × Nat)}{b k:Nat}{q:Rat}(h:RBag w0 w L)(c:RatVal w b q)(d:Fits q k)(hk:0<k):RBag w0 w ((b,q,k) :: L):=
 ⟨h.base,h.glob,fun t a=>by
   rcases List.mem_cons.1 a with rfl|a
   . exact⟨c,d,hk⟩
   . exact h.ts t a⟩
theorem RBag.rebase{w0 w:Vz}{L:List (Nat × Rat × Nat)}(h:RBag w0 w L):RBag w w L:=⟨Below.refl _ _,h.glob,h.ts⟩
def RNew(w0:Vz)(L:List (Nat × Rat × Nat))(q:Rat)(k:Nat)(e:Ending)(w':Vz):Prop:=∃b,e=.returned (.pointer (some ⟨b,0,none⟩))/\RBag w0 w' ((b,q,k) :: L)
theorem RBag.new{w0 w w':Vz}{L:List (Nat × Rat × Nat)}{q:Rat}{k:Nat}{e:Ending}(h:RBag w0 w L)(a:NewRat w q e w')(c:Fits q k)(hk:0<k):RNew w0 L q k e w':=by
 obtain⟨⟨b,d,_,f⟩,g⟩:=a;exact⟨b,d,(h.below g).put f c hk⟩
theorem RBag.add{w0 w:Vz}{L:List (Nat × Rat × Nat)}{bx c j k:Nat}{p q:Rat}(h:RBag w0 w L)(d:(bx,p,j)∈ L)(f:(c,q,k)∈ L)(g:j+k<274877906000):
 Calls prog 94 #[.pointer (some ⟨bx,0,none⟩),.pointer (some ⟨c,0,none⟩)] w (RNew w0 L (p+q) (j+k+1)):=by
 have a:=h.ts _ d;have b:=h.ts _ f;exact(Qt6 bx c j k p q w a.1 b.1 a.2.1 b.2.1 g).mono fun e w' i=>h.new i (a.2.1.add b.2.1) (by omega)
theorem RBag.sub{w0 w:Vz}{L:List (Nat × Rat × Nat)}{bx c j k:Nat}{p q:Rat}(h:RBag w0 w L)(d:(bx,p,j)∈ L)(f:(c,q,k)∈ L)(g:j+k<274877906000):
 Calls prog 90 #[.pointer (some ⟨bx,0,none⟩),.pointer (some ⟨c,0,none⟩)] w (RNew w0 L (p - q) (j+k+1)):=by
 have a:=h.ts _ d;have b:=h.ts _ f;exact(Qt7 bx c j k p q w a.1 b.1 a.2.1 b.2.1 g).mono fun e w' i=>h.new i (a.2.1.sub b.2.1) (by omega)
theorem RBag.mul{w0 w:Vz}{L:List (Nat × Rat × Nat)}{bx c j k:Nat}{p q:Rat}(h:RBag w0 w L)(d:(bx,p,j)∈ L)(f:(c,q,k)∈ L)(g:j+k<274877906000):
 Calls prog 91 #[.pointer (some ⟨bx,0,none⟩),.pointer (some ⟨c,0,none⟩)] w (RNew w0 L (p*q) (j+k)):=by
 have a:=h.ts _ d;have b:=h.ts _ f;have i:0<j:=a.2.2;exact(Qt8 bx c j k p q w a.1 b.1 a.2.1 b.2.1 g).mono fun e w' l=>h.new l (a.2.1.mul b.2.1 i) (by omega)
theorem RBag.nought{w0 w:Vz}{L:List (Nat × Rat × Nat)}(h:RBag w0 w L):
 Calls prog 92 #[.int .i64 0] w (RNew w0 L 0 1):=
 (ref_N 0 w (by decide)).mono fun e w' a=>h.new a Fits.zero (by decide)
theorem RBag.of{w0 w:Vz}{L:List (Nat × Rat × Nat)}{n:Nat}(s:Vs)(h:RBag w0 w L)(hs:s.size<=n)(c:n<=1073741824):
 Calls prog 33 #[.string s] w fun e w'=>∃q,QOf s.data.toList q/\RNew w0 L q (4*n+1) e w':=by
 obtain⟨m,b⟩:=h.glob;refine(Qt5 s m w b (by omega)).mono ?_;rintro e w' ⟨q,a,hk⟩;exact⟨q,a,h.new hk (a.fits (by simpa using hs)) (by omega)⟩
theorem RBag.text{w0 w:Vz}{L:List (Nat × Rat × Nat)}{bx j:Nat}{p:Rat}(h:RBag w0 w L)(c:(bx,p,j)∈ L)(d:j<274877906000):
 Calls prog 55 #[.pointer (some ⟨bx,0,none⟩)] w fun e w'=>(∃s,e=.returned (.string s)/\QText s.data.toList p)/\RBag w0 w' L:=by
 have a:=h.ts _ c;exact(ref_T bx j p w a.1 a.2.1 (by omega)).mono fun e w' b=>⟨b.1,h.below b.2⟩
theorem RBag.sign{w0 w:Vz}{L:List (Nat × Rat × Nat)}{bx j:Nat}{p:Rat}(h:RBag w0 w L)(a:(bx,p,j)∈ L):
 Calls prog 35 #[.pointer (some ⟨bx,0,none⟩)] w fun e w'=>e=.returned (.int .i64 (sgn3 p.num))/\w'=w:=
 Qtm bx p w (h.ts _ a).1
theorem RatAt.negA{w w':Vz}{b:Nat}{P D:Int}{i d:Vx}{c1 c2:Nat}{f g:Vy}{e:Ending}(h:RatAt w b P D i c1 f d c2 g)(k:LaidOk w b 0 124 #[.bool (decide (P<0)),.slice i f.length c1,.bool (decide (D<0)),.slice d g.length c2] (-P) e w'):
 e=.returned (.pointer (some ⟨b,0,none⟩))/\Only b w w'/\∃a c l,RatAt w' b (-P) D a c l d c2 g/\l.length<=f.length:=by
 obtain⟨rfl,a,c,l,hl⟩:=k;refine⟨rfl,hl.only,a,c,l,⟨?_,hl.num,h.den.only hl.only h.sb (Qab _ _ _ _ _ _ _ _)⟩,hl.num.len_mono h.num (by omega)⟩;have:=hl.sb
 simpa [putInt] using this
theorem RatAt.negB{w w':Vz}{b:Nat}{P D:Int}{d i:Vx}{c1 c2:Nat}{f g:Vy}{e:Ending}(h:RatAt w b P D d c1 f i c2 g)(k:LaidOk w b 2 124 #[.bool (decide (P<0)),.slice d f.length c1,.bool (decide (D<0)),.slice i g.length c2] (-D) e w'):
 e=.returned (.pointer (some ⟨b,2,none⟩))/\Only b w w'/\∃a c l,RatAt w' b P (-D) d c1 f a c l/\l.length<=g.length:=by
 obtain⟨rfl,a,c,l,hl⟩:=k;refine⟨rfl,hl.only,a,c,l,⟨?_,h.num.only hl.only h.sb (Qab _ _ _ _ _ _ _ _),hl.num⟩,hl.num.len_mono h.den (by omega)⟩;have:=hl.sb
 simpa [putInt] using this
theorem Qta(b:Nat)(P0 Z:Int)(b1 b2:Vx)(d1 d2:Nat)(m1 m2:Vy)(w0:Vz)(h0:RatAt w0 b P0 Z b1 d1 m1 b2 d2 m2)(hn:Z<0)(s:m1.length<1099511627770)(f:m2.length<1099511627770):
 Calls prog 117 #[.pointer (some ⟨b,0,none⟩)] w0 (RatOk w0 b (mkRat (-P0) Z.natAbs)):=by
 have k0:=h0.c0;have k1:=h0.c1;have k2:=h0.c2;have k3:=h0.c3;have ao:decide (Z<0)=true:=by simp;omega
 rw[ao] at k2;have q1:((m2.length:Int) == 0)=false:=by
  rw[beq_eq_false_iff_ne];have:=(h0.den.num.len_zero (by decide)).2;omega
 have HH:=Hi h0;obtain⟨q,B⟩:=nm (mkRat (-P0) Z.natAbs);rw[B];have HQ:=Hi B;clear h0 ao B;have ap:=Hi (fun u (hu:RatAt u b P0 Z b1 d1 m1 b2 d2 m2)=>Qgs b 0 124 _ P0 b1 d1 m1 u hu.sb (Qab _ _ _ _ _ _ _ _) (by simp) hu.upper);go_enter func117,ntmps117;go_wp2_with fail;go_region_held3 (fun _=>True) (trivial) (first
  |(
   go_at_call 119;refine(ap.o _ HH.o.drew).mono ?_;rintro e w1 hk;obtain⟨rfl,au,a1,c1,Q,av,a0⟩:=HH.o.drew.negA hk;obtain⟨aw,ae⟩:=Ia ((Only.refl b w0).drew.trans au) av
   clear hk au av k0 k1 k2 k3)
  |fail)
 have ax:=Hi (fun u (hu:RatAt u b (-P0) Z a1 c1 Q b2 d2 m2)=>Qgs b 2 124 _ Z b2 d2 m2 u hu.sb (Qab _ _ _ _ _ _ _ _) (by simp) hu.lower);go_wp2_with fail;go_region_held3 (fun _=>True) (trivial) (first
  |(
   go_at_call 119;refine(ax.o _ ae.o.drew).mono ?_;rintro e w hk;obtain⟨rfl,ay,a2,c2,R,h,hz2⟩:=ae.o.drew.negB hk;have y:=Hi (aw.o.trans ((Only.refl b w1).drew.trans ay))
   clear hk ay ap ax ae aw HH)
  |fail)
 obtain⟨P,aa⟩:∃P,-P0=P:=⟨_,rfl⟩;obtain⟨D,af⟩:∃D,-Z=D:=⟨_,rfl⟩;have az:Z.natAbs=D.natAbs:=by omega
 rw[aa,af] at h;have z:O (mkRat P D.natAbs=q):=Hi (by rw[<-HQ.o,<-az,aa]);have hD:0<D:=by omega
 have ab:Q.length<1099511627770:=by omega
 have ad:R.length<1099511627770:=by omega
 have k0:=h.c0;have k1:=h.c1;have k2:=h.c2;have k3:=h.c3;have S:decide (D<0)=false:=by simp;omega
 rw[S] at k2;clear a0 hz2 az s f;have s:=ab;have f:=ad;clear ab ad;have q2:((Q.length:Int) == 0)=decide (P=0):=by
  have:=h.num.num.len_zero (by decide);by_cases hp:P=0
  . rw[decide_eq_true hp,this.1 (by omega)];rfl
  .
   rw[decide_eq_false hp,beq_eq_false_iff_ne];intro hc;have:=this.2 (by omega);omega
 by_cases hP:P=0
 .
  subst hP;rw[decide_eq_true rfl] at q2;have H:=Hi h;clear h S aa af;go_wp2_with fail;refine(Qfs b 2 124 _ 1 _ H.o.sb (Qab _ _ _ _ _ _ _ _) (by simp) (by decide) (by decide)).mono ?_;rintro e w1 ⟨rfl,a,cap,l,hl⟩;go_wp2;go_ret;refine RatOk.of y.o ?_;rw[<-z.o];rw[Rat.zero_mkRat];refine⟨rfl,hl.only,a1,c1,Q,a,cap,l,?_,?_,hl.num⟩
  . have:=hl.sb
    simpa [putInt] using this
  . exact H.o.num.only hl.only H.o.sb (Qab _ _ _ _ _ _ _ _)
 rw[decide_eq_false hP] at q2;clear aa af;by_cases a3:D=1
 .
  subst a3;have a4:R= [1]:=Qb2 h.den.num;subst a4;obtain⟨b',o',rfl,a5,N⟩:=h.den.row.cell 0 (by simp);have N:w.cell? ⟨b',o',none⟩=some (.int .u32 1):=by simpa using N
  simp only[List.length_singleton] at k3;have H:=Hi h;have e:mkRat P (1:Int).natAbs=(P:Rat):=by
   apply Rat.ext
   . rw[Rat.num_mkRat];simp
   . rw[Rat.den_mkRat];simp
  have HE:=Hi e;clear h S e;go_wp2;go_ret;refine RatOk.of y.o ?_;rw[<-z.o];rw[HE.o];exact⟨rfl,Only.refl _ _,_,_,_,_,_,_,H.o⟩
 by_cases hl:R.length=1
 .
  obtain⟨d,rfl⟩:∃d,R= [d]:=by
   match R,hl with
   | [d],_=>exact⟨d,rfl⟩
  have hd:d≠1:=by
   have:=h.den.num.eq;simp[val] at this;omega
  obtain⟨b',o',rfl,a5,N⟩:=h.den.row.cell 0 (by simp);have N:w.cell? ⟨b',o',none⟩=some (.int .u32 (d:Int)):=by simpa using N
  have ah:((d:Int) == 1)=false:=by rw[beq_eq_false_iff_ne];omega
  simp only[List.length_singleton] at k3;obtain⟨H,HG⟩:=Ia h (Qdv a1 (some ⟨b',o',none⟩) c1 c2 Q ([d]) P.natAbs D.natAbs w.drew h.num.drew h.den.drew (by omega) (by omega));have T:=h.sb.lt;clear h S;go_wp2;go_region_held3 (fun w'=>w'.cell? ⟨b,1,none⟩=some (.slice a1 Q.length c1)/\w'.cell? ⟨b,3,none⟩=some (.slice (some ⟨b',o',none⟩) (1) c2)) ((simp [*]))
   (first
     |(go_at_call 156;refine HG.o.mono ?_;rintro e w1 ⟨⟨ag,cg,rg,rfl,c⟩,s⟩;have d1:=ce s T k1;have d3:=ce s T k3;have HU:=Hi c;have r:=Hi ((Below.refl w.heap.size w).drew.trans s);clear c s))
  clear k0 k1 k2 k3 HG N ah;obtain⟨g,A⟩:=nm (Nat.gcd P.natAbs D.natAbs);have c:=HU.o;rw[A] at c;obtain⟨U,t⟩:=Ia c A;have i:0<g:=by rw[<-A];exact Nat.gcd_pos_of_pos_right _ (by omega)
  have H1:=H.o.below r.o;have a6:rg.length<=([d]).length:=c.len_mono H.o.den (by rw[<-A];exact Nat.le_of_dvd (by omega) (Nat.gcd_dvd_right _ _));clear HU;by_cases V:g=1
  .
   subst V;have ai:rg= [1]:=Qb2 c.num;subst ai;obtain⟨bg,og,rfl,aj,v⟩:=c.row.cell 0 (by simp);have v:w1.cell? ⟨bg,og,none⟩=some (.int .u32 1):=by simpa using v
   clear c A H1;go_wp2;go_ret;refine RatOk.of y.o ?_;rw[<-z.o];obtain⟨C,W⟩:=Qel (P:=P) hD t.o;refine RatOk.of (Only.of_below r.o) ⟨rfl,Only.refl _ _,a1,c1,Q,some ⟨b',o',none⟩,c2,[d],?_⟩;rw[C,W];exact H.o.below r.o
  .
   have p:g ∣ P.natAbs:=by rw[<-A];exact Nat.gcd_dvd_left _ _
   have X:=Hi (Qas a1 ag c1 cg Q rg P.natAbs g w1 H1.num c i (by omega));rcases Qem c.num V with a7|⟨dd,rfl,a8⟩
   .
    clear c A H1;go_wp2_with fail;refine X.o.mono ?_;rintro e w2 ⟨⟨E,F,G,ar,cr,rr,rfl,B,hr⟩,f⟩;have I:=(H.o.below r.o).below f;have ak:=I.c3;obtain⟨HQ,j,J⟩:=Ib B f (Qas (some ⟨b',o',none⟩) _ c2 cg ([d]) _ D.natAbs g w2 I.den (U.o.below f) i (by omega));clear B hr f I;go_wp2_with fail;refine J.o.mono ?_;rintro e K ⟨⟨k,L,rs,al,ct,rt,rfl,hs,ht⟩,m⟩;have H3:=((H.o.below r.o).below j.o).below m;have f1:=H3.sb.free 1;have f3:=H3.sb.free 3;have am:=H3.c1;have an:=H3.c3;obtain⟨HS,x,n⟩:=Ib hs m H3;clear hs ht m H3;go_wp2;go_ret;refine RatOk.of y.o ?_;rw[<-z.o];have M:Only b K ((K.setCell ⟨b,1,none⟩ (.slice E G.length F)).setCell ⟨b,3,none⟩ (.slice k rs.length L)):=((Only.refl b K).setCell _ _).setCell _ _;have Y:g ∣ D.natAbs:=by rw[<-t.o];exact Nat.gcd_dvd_right _ _
    obtain⟨C,W⟩:=Qbq (P:=P) hD t.o;refine RatOk.of (Only.of_below (r.o.trans ((j.o.mono r.o.size).trans (x.o.mono (Nat.le_trans r.o.size j.o.size))))) ⟨rfl,M,E,F,G,k,L,rs,?_,?_,?_⟩
    .
     have:=(n.o.sb.set 1 (.slice E G.length F)).set 3 (.slice k rs.length L);have en:decide ((((mkRat P D.natAbs).den:Nat):Int)<0)=decide (D<0):=by
      apply decide_eq_decide.2;omega
     rw[C,Qbp P g i p,en]
     simpa using this
    . rw[C,Qbo P g i p]
      exact(HQ.o.below x.o).only M n.o.sb (Qab _ _ _ _ _ _ _ _)
    . rw[W,Int.natAbs_natCast]
      exact HS.o.only M n.o.sb (Qab _ _ _ _ _ _ _ _)
   .
    obtain⟨bg,og,rfl,aj,v⟩:=c.row.cell 0 (by simp);have v:w1.cell? ⟨bg,og,none⟩=some (.int .u32 (dd:Int)):=by simpa using v
    have a9:((dd:Int) == 1)=false:=by rw[beq_eq_false_iff_ne];omega
    clear c A H1;go_wp2_with fail;refine X.o.mono ?_;rintro e w2 ⟨⟨E,F,G,ar,cr,rr,rfl,B,hr⟩,f⟩;have I:=(H.o.below r.o).below f;have ak:=I.c3;obtain⟨HQ,j,J⟩:=Ib B f (Qas (some ⟨b',o',none⟩) _ c2 cg ([d]) _ D.natAbs g w2 I.den (U.o.below f) i (by omega));clear B hr f I;go_wp2_with fail;refine J.o.mono ?_;rintro e K ⟨⟨k,L,rs,al,ct,rt,rfl,hs,ht⟩,m⟩;have H3:=((H.o.below r.o).below j.o).below m;have f1:=H3.sb.free 1;have f3:=H3.sb.free 3;have am:=H3.c1;have an:=H3.c3;obtain⟨HS,x,n⟩:=Ib hs m H3;clear hs ht m H3;go_wp2;go_ret;refine RatOk.of y.o ?_;rw[<-z.o];have M:Only b K ((K.setCell ⟨b,1,none⟩ (.slice E G.length F)).setCell ⟨b,3,none⟩ (.slice k rs.length L)):=((Only.refl b K).setCell _ _).setCell _ _;have Y:g ∣ D.natAbs:=by rw[<-t.o];exact Nat.gcd_dvd_right _ _
    obtain⟨C,W⟩:=Qbq (P:=P) hD t.o;refine RatOk.of (Only.of_below (r.o.trans ((j.o.mono r.o.size).trans (x.o.mono (Nat.le_trans r.o.size j.o.size))))) ⟨rfl,M,E,F,G,k,L,rs,?_,?_,?_⟩
    .
     have:=(n.o.sb.set 1 (.slice E G.length F)).set 3 (.slice k rs.length L);have en:decide ((((mkRat P D.natAbs).den:Nat):Int)<0)=decide (D<0):=by
      apply decide_eq_decide.2;omega
     rw[C,Qbp P g i p,en]
     simpa using this
    . rw[C,Qbo P g i p]
      exact(HQ.o.below x.o).only M n.o.sb (Qab _ _ _ _ _ _ _ _)
    . rw[W,Int.natAbs_natCast]
      exact HS.o.only M n.o.sb (Qab _ _ _ _ _ _ _ _)
 .
  have ah:((R.length:Int) == 1)=false:=by rw[beq_eq_false_iff_ne];omega
  obtain⟨H,HG⟩:=Ia h (Qdv a1 (a2) c1 c2 Q (R) P.natAbs D.natAbs w.drew h.num.drew h.den.drew (by omega) (by omega));have T:=h.sb.lt;clear h S;go_wp2;go_region_held3 (fun w'=>w'.cell? ⟨b,1,none⟩=some (.slice a1 Q.length c1)/\w'.cell? ⟨b,3,none⟩=some (.slice (a2) (R.length) c2)) ((simp [*]))
   (first
     |(go_at_call 156;refine HG.o.mono ?_;rintro e w1 ⟨⟨ag,cg,rg,rfl,c⟩,s⟩;have d1:=ce s T k1;have d3:=ce s T k3;have HU:=Hi c;have r:=Hi ((Below.refl w.heap.size w).drew.trans s);clear c s))
  clear k0 k1 k2 k3 HG ah;obtain⟨g,A⟩:=nm (Nat.gcd P.natAbs D.natAbs);have c:=HU.o;rw[A] at c;obtain⟨U,t⟩:=Ia c A;have i:0<g:=by rw[<-A];exact Nat.gcd_pos_of_pos_right _ (by omega)
  have H1:=H.o.below r.o;have a6:rg.length<=(R).length:=c.len_mono H.o.den (by rw[<-A];exact Nat.le_of_dvd (by omega) (Nat.gcd_dvd_right _ _));clear HU;by_cases V:g=1
  .
   subst V;have ai:rg= [1]:=Qb2 c.num;subst ai;obtain⟨bg,og,rfl,aj,v⟩:=c.row.cell 0 (by simp);have v:w1.cell? ⟨bg,og,none⟩=some (.int .u32 1):=by simpa using v
   clear c A H1;go_wp2;go_ret;refine RatOk.of y.o ?_;rw[<-z.o];obtain⟨C,W⟩:=Qel (P:=P) hD t.o;refine RatOk.of (Only.of_below r.o) ⟨rfl,Only.refl _ _,a1,c1,Q,a2,c2,R,?_⟩;rw[C,W];exact H.o.below r.o
  .
   have p:g ∣ P.natAbs:=by rw[<-A];exact Nat.gcd_dvd_left _ _
   have X:=Hi (Qas a1 ag c1 cg Q rg P.natAbs g w1 H1.num c i (by omega));rcases Qem c.num V with a7|⟨dd,rfl,a8⟩
   .
    clear c A H1;go_wp2_with fail;refine X.o.mono ?_;rintro e w2 ⟨⟨E,F,G,ar,cr,rr,rfl,B,hr⟩,f⟩;have I:=(H.o.below r.o).below f;have ak:=I.c3;obtain⟨HQ,j,J⟩:=Ib B f (Qas (a2) _ c2 cg (R) _ D.natAbs g w2 I.den (U.o.below f) i (by omega));clear B hr f I;go_wp2_with fail;refine J.o.mono ?_;rintro e K ⟨⟨k,L,rs,al,ct,rt,rfl,hs,ht⟩,m⟩;have H3:=((H.o.below r.o).below j.o).below m;have f1:=H3.sb.free 1;have f3:=H3.sb.free 3;have am:=H3.c1;have an:=H3.c3;obtain⟨HS,x,n⟩:=Ib hs m H3;clear hs ht m H3;go_wp2;go_ret;refine RatOk.of y.o ?_;rw[<-z.o];have M:Only b K ((K.setCell ⟨b,1,none⟩ (.slice E G.length F)).setCell ⟨b,3,none⟩ (.slice k rs.length L)):=((Only.refl b K).setCell _ _).setCell _ _;have Y:g ∣ D.natAbs:=by rw[<-t.o];exact Nat.gcd_dvd_right _ _
    obtain⟨C,W⟩:=Qbq (P:=P) hD t.o;refine RatOk.of (Only.of_below (r.o.trans ((j.o.mono r.o.size).trans (x.o.mono (Nat.le_trans r.o.size j.o.size))))) ⟨rfl,M,E,F,G,k,L,rs,?_,?_,?_⟩
    .
     have:=(n.o.sb.set 1 (.slice E G.length F)).set 3 (.slice k rs.length L);have en:decide ((((mkRat P D.natAbs).den:Nat):Int)<0)=decide (D<0):=by
      apply decide_eq_decide.2;omega
     rw[C,Qbp P g i p,en]
     simpa using this
    . rw[C,Qbo P g i p]
      exact(HQ.o.below x.o).only M n.o.sb (Qab _ _ _ _ _ _ _ _)
    . rw[W,Int.natAbs_natCast]
      exact HS.o.only M n.o.sb (Qab _ _ _ _ _ _ _ _)
   .
    obtain⟨bg,og,rfl,aj,v⟩:=c.row.cell 0 (by simp);have v:w1.cell? ⟨bg,og,none⟩=some (.int .u32 (dd:Int)):=by simpa using v
    have a9:((dd:Int) == 1)=false:=by rw[beq_eq_false_iff_ne];omega
    clear c A H1;go_wp2_with fail;refine X.o.mono ?_;rintro e w2 ⟨⟨E,F,G,ar,cr,rr,rfl,B,hr⟩,f⟩;have I:=(H.o.below r.o).below f;have ak:=I.c3;obtain⟨HQ,j,J⟩:=Ib B f (Qas (a2) _ c2 cg (R) _ D.natAbs g w2 I.den (U.o.below f) i (by omega));clear B hr f I;go_wp2_with fail;refine J.o.mono ?_;rintro e K ⟨⟨k,L,rs,al,ct,rt,rfl,hs,ht⟩,m⟩;have H3:=((H.o.below r.o).below j.o).below m;have f1:=H3.sb.free 1;have f3:=H3.sb.free 3;have am:=H3.c1;have an:=H3.c3;obtain⟨HS,x,n⟩:=Ib hs m H3;clear hs ht m H3;go_wp2;go_ret;refine RatOk.of y.o ?_;rw[<-z.o];have M:Only b K ((K.setCell ⟨b,1,none⟩ (.slice E G.length F)).setCell ⟨b,3,none⟩ (.slice k rs.length L)):=((Only.refl b K).setCell _ _).setCell _ _;have Y:g ∣ D.natAbs:=by rw[<-t.o];exact Nat.gcd_dvd_right _ _
    obtain⟨C,W⟩:=Qbq (P:=P) hD t.o;refine RatOk.of (Only.of_below (r.o.trans ((j.o.mono r.o.size).trans (x.o.mono (Nat.le_trans r.o.size j.o.size))))) ⟨rfl,M,E,F,G,k,L,rs,?_,?_,?_⟩
    .
     have:=(n.o.sb.set 1 (.slice E G.length F)).set 3 (.slice k rs.length L);have en:decide ((((mkRat P D.natAbs).den:Nat):Int)<0)=decide (D<0):=by
      apply decide_eq_decide.2;omega
     rw[C,Qbp P g i p,en]
     simpa using this
    . rw[C,Qbo P g i p]
      exact(HQ.o.below x.o).only M n.o.sb (Qab _ _ _ _ _ _ _ _)
    . rw[W,Int.natAbs_natCast]
      exact HS.o.only M n.o.sb (Qab _ _ _ _ _ _ _ _)
theorem Qtb(b:Nat)(J K L M:Value)(N O:Nat)(A:Int)(W:Vx)(c1:Nat)(G:Vy)(P Q:Nat)(B:Int)(X:Vx)(c2:Nat)(q:Vy)(w:Vz)
 (hs:SB w b 124 #[J,K,L,M]) (Y:NoInt #[J,K,L,M]) (R:IntAt w N O A W c1 G) (r:IntAt w P Q B X c2 q) (hB:B<0) (h1:G.length<1099511627770) (h2:q.length<1099511627770):
 Calls prog 68 #[.pointer (some ⟨b,0,none⟩),.pointer (some ⟨N,O,none⟩),.pointer (some ⟨P,Q,none⟩)] w (RatOk w b (mkRat (-A) B.natAbs)):=by
 have k1:=r.abs;have q1:((q.length:Int) == 0)=false:=by
  rw[beq_eq_false_iff_ne];have:=(r.num.num.len_zero (by decide)).2;omega
 obtain⟨Z,HN,HA,s⟩:=Ic hs Y R r;have aa:=hs.lt;have ab:=R.lt;have ad:=r.lt;clear hs Y R r;replace hB:=Hi hB;go_enter func68,ntmps68;go_wp2_with fail;have k:Bl w (w.alloc (.cells #[.bool false,.slice none 0 0] 122)):=bR.alloc lZ _;refine(Qc5 w.heap.size 0 122 _ N O A W c1 G _ (SB.new w 122 _) Tryz.int_zero (by simp) (HA.o.below k) (by omega)).mono ?_;rintro e g ⟨rfl,t,u,n,H⟩;have l:Bl w g:=Only.fresh k H.only lZ;have ae:w.heap.size<g.heap.size:=by have:=H.only.size;simp at this;omega
 have f:Bl g (g.alloc (.cells #[.bool false,.slice none 0 0] 122)):=bR.alloc lZ _;obtain⟨S,HP,v,x⟩:=Ic (Qc5 g.heap.size 0 122 _ P Q B X c2 q _ (SB.new g 122 _) Tryz.int_zero (by simp) ((s.o.below l).below f) (by omega)) H l f;clear H l k f;go_wp2_with fail;refine S.o.mono ?_;rintro e h ⟨rfl,y,z,p,T⟩;have i:Bl g h:=Only.fresh x.o T.only lZ;have c:=(HP.o.at (by simp)).below i;have d:=T.at (by simp);have a:=((Z.o.below v.o Z.o.lt).below i (by omega));have p0:=c.neg;have p1:=c.abs;have r0:=d.neg;have r1:=d.abs;have z0:h.cell? ⟨b,0,none⟩=some J:=by rw[a.cell];rfl
 have z1:h.cell? ⟨b,1,none⟩=some K:=by rw[a.cell];rfl
 have z2:h.cell? ⟨b,2,none⟩=some L:=by rw[a.cell];rfl
 have z3:h.cell? ⟨b,3,none⟩=some M:=by rw[a.cell];rfl
 have f0:=a.free 0;have f1:=a.free 1;have f2:=a.free 2;have f3:=a.free 3;obtain⟨C,D,m,U⟩:=Ic c d a i;clear T c d a i;simp only[Nat.zero_add] at p1 r1;go_wp2_with fail;have I:Only b h ((((h.setCell ⟨b,0,none⟩ (.bool (decide (A<0)))).setCell ⟨b,1,none⟩ (.slice t n.length u)).setCell ⟨b,2,none⟩ (.bool (decide (B<0)))).setCell ⟨b,3,none⟩ (.slice y p.length z)):=
  ((((Only.refl b h).setCell _ _).setCell _ _).setCell _ _).setCell _ _
 have j:RatAt ((((h.setCell ⟨b,0,none⟩ (.bool (decide (A<0)))).setCell ⟨b,1,none⟩ (.slice t n.length u)).setCell ⟨b,2,none⟩ (.bool (decide (B<0)))).setCell ⟨b,3,none⟩ (.slice y p.length z)) b A B t u n y z p:=by
  refine⟨?_,C.o.num.only I m.o HN.o,D.o.num.only I m.o HN.o⟩;have:=(((m.o.set 0 (.bool (decide (A<0)))).set 1 (.slice t n.length u)).set 2 (.bool (decide (B<0)))).set 3 (.slice y p.length z)
  simpa using this
 have af:n.length<=G.length:=C.o.num.len_mono HA.o.num lZ;have ag:p.length<=q.length:=D.o.num.len_mono s.o.num lZ;refine(Qta b A B t y u z n p _ j hB.o (by omega) (by omega)).mono ?_;rintro e w3 E;have F:RatOk w b (mkRat (-A) B.natAbs) e w3:=RatOk.of ((Only.of_below (v.o.trans (U.o.mono (by omega)))).trans I) E;obtain⟨rfl,V,hr⟩:=F;clear E I j;go_wp2;go_ret;exact⟨rfl,V,hr⟩
theorem Bag.setFracN{w0 w:Vz}{Z:Vy}{L:List Thing}{c d f g i n o:Nat}{A B:Int}(h:Bag w0 w Z L)(p:.room c∈ L)(j:.int d f A n∈ L)(k:.int g i B o∈ L)(hB:B<0)(v:n<1099511627770)(x:o<1099511627770):
 Calls prog 68 #[.pointer (some ⟨c,0,none⟩),.pointer (some ⟨d,f,none⟩),.pointer (some ⟨g,i,none⟩)] w (RatOk w0 c (mkRat (-A) B.natAbs)):=by
 obtain⟨⟨q,r,s,t,hs,u⟩,_⟩:=h.ts _ p;obtain⟨⟨a,cap,l,j,y⟩,_⟩:=h.ts _ j;obtain⟨⟨b,cap',m,k,z⟩,_⟩:=h.ts _ k;refine(Qtb c q r s t d f A a cap l g i B b cap' m w hs u j k hB (by omega) (by omega)).mono ?_;intro e w' hk;exact RatOk.of (Only.of_below h.base) hk
theorem Qtc(p q:Rat)(a:q.num<0):mkRat (-(p.num*(q.den:Int))) ((p.den:Int)*q.num).natAbs=p / q:=by
 have h:0<(-q).num:=by rw[Rat.neg_num];omega
 have b:=Qgr (-p) (-q) h;rw[Rat.neg_num,Rat.neg_den,Rat.neg_num,Rat.neg_den] at b;have e: -p / -q=p / q:=by
  have c:q≠0:=fun e=>by rw[e] at a;exact absurd a (by decide)
  grind
 rw[<-e,<-b]
 congr 1
 . grind
 . rw[Int.natAbs_mul,Int.natAbs_mul,Int.natAbs_neg]
theorem Qtd(i bx r j k:Nat)(p q:Rat)(w:Vz)(s:(Thing.room i).holds w)(t:RatVal w bx p)(u:RatVal w r q)(v:Fits p j)(x:Fits q k)(C:j+k<274877906000)(d:q.num<0):
 Calls prog 139 #[.pointer (some ⟨i,0,none⟩),.pointer (some ⟨bx,0,none⟩),.pointer (some ⟨r,0,none⟩)] w (RatOk w i (p / q)):=by
 have f:=Qat p;have l:=Qat q;obtain⟨g,z,b⟩:=Ib (Int.mul_neg_of_pos_of_neg f d) (Qtc p q d) (Bag.two t u s v x);clear t u s v x f l;go_enter func139,ntmps139;go_wp2;go_region_held3 (fun _=>True) (trivial) (first
  |
   (go_at_call 72
    apply cM;apply Bag.mul (w0:=w);(focus(repeat(first|exact b.o|apply Bag.alloc|apply Bag.drew)));(focus(simp only[mem_less,List.mem_cons,List.not_mem_nil,or_false,size_drew,World.size_alloc,true_or,or_true,true_and,and_true]<;>omega));(focus(repeat(first|exact mH|apply mT)));(focus(repeat(first|exact mH|apply mT)));omega;rintro e y ⟨rfl,a,c,m⟩;clear b;have b:=Hi a;clear a
    (try simp only[size_drew,World.size_alloc] at c))
  |
   (go_at_call 70
    apply cM;apply Bag.den (w0:=w);(focus(repeat(first|exact b.o|apply Bag.alloc|apply Bag.drew)));(focus(repeat(first|exact mH|apply mT)));rintro e y ⟨D,E,rfl,a,c⟩;clear b;have b:=Hi a;clear a
    (try simp only[size_drew,World.size_alloc] at c))
  |
   (go_at_call 72
    apply cM;apply Bag.mul (w0:=w);(focus(repeat(first|exact b.o|apply Bag.alloc|apply Bag.drew)));(focus(simp only[mem_less,List.mem_cons,List.not_mem_nil,or_false,size_drew,World.size_alloc,true_or,or_true,true_and,and_true]<;>omega));(focus(repeat(first|exact mH|apply mT)));(focus(repeat(first|exact mH|apply mT)));omega;rintro e y ⟨rfl,a,c,m⟩;clear b;have b:=Hi a;clear a
    (try simp only[size_drew,World.size_alloc] at c))
  |
   (go_at_call 68
    apply cM;apply Bag.setFracN (w0:=w);(focus(repeat(first|exact b.o|apply Bag.alloc|apply Bag.drew)));(focus(repeat(first|exact mH|apply mT)));(focus(repeat(first|exact mH|apply mT)));(focus(repeat(first|exact mH|apply mT)));exact g.o;omega;omega;rintro e F h;have A:=Hi h;obtain⟨rfl,n,B⟩:=h
    clear b n B)
  )
 all_goals
  go_wp2;go_ret;rw[<-z.o];exact A.o
theorem Qte(a bx b j k:Nat)(p q:Rat)(w:Vz)(c:(Thing.room a).holds w)(d:RatVal w bx p)(e:RatVal w b q)(f:Fits p j)(g:Fits q k)(i:j+k<274877906000)(l:q.num≠0):
 Calls prog 139 #[.pointer (some ⟨a,0,none⟩),.pointer (some ⟨bx,0,none⟩),.pointer (some ⟨b,0,none⟩)] w (RatOk w a (p / q)):=by
 by_cases h:0<q.num
 . exact Qs9 a bx b j k p q w c d e f g i h
 . exact Qtd a bx b j k p q w c d e f g i (by omega)
theorem Qtf(bx c j k:Nat)(p q:Rat)(w:Vz)(f:RatVal w bx p)(g:RatVal w c q)(h:Fits p j)(i:Fits q k)(l:j+k<274877906000)(a:q.num≠0):
 Calls prog 89 #[.pointer (some ⟨bx,0,none⟩),.pointer (some ⟨c,0,none⟩)] w (NewRat w (p / q)):=by
 have m:=Hi (Qte w.heap.size bx c j k p q _ (Qcq w) (f.alloc _) (g.alloc _) h i l a);clear f g h i l a;go_enter func89,ntmps89;go_wp2_with fail;refine m.o.mono ?_;rintro e s b;have n:=Hi (RatOk.new b);obtain⟨rfl,d,r⟩:=b;clear d r m;go_wp2;go_ret;exact n.o
theorem Qtg(p q:Rat)(a:q.num≠0): -p / -q=p / q:=by
 have b:q≠0:=fun e=>a (by rw[e];rfl)
 grind
theorem Fits.quoA{p q:Rat}{j k:Nat}(h:Fits p j)(a:Fits q k)(b:0<j)(c:q.num≠0):Fits (p / q) (j+k):=by
 by_cases d:0<q.num
 . exact h.quo a b d
 . rw[<-Qtg p q c]
   exact h.neg.quo a.neg b (by rw[Rat.neg_num];omega)
theorem RBag.quoA{w0 w:Vz}{L:List (Nat × Rat × Nat)}{bx c j k:Nat}{p q:Rat}(h:RBag w0 w L)(g:(bx,p,j)∈ L)(i:(c,q,k)∈ L)(l:j+k<274877906000)(m:q≠0):
 Calls prog 89 #[.pointer (some ⟨bx,0,none⟩),.pointer (some ⟨c,0,none⟩)] w (RNew w0 L (p / q) (j+k)):=by
 have a:=h.ts _ g;have b:=h.ts _ i;have n:0<j:=a.2.2;have f:q.num≠0:=fun e=>m (Rat.num_eq_zero.1 e)
 exact(Qtf bx c j k p q w a.1 b.1 a.2.1 b.2.1 l f).mono fun e w' d=>h.new d (a.2.1.quoA b.2.1 n f) (by omega)
end Go.Proofs.YtppkmifkpjkgpaaGreatDoor
