import Derived.Test.YtppkmifkpjkgpaaGreatDoorE05RatNeg
namespace Go.Proofs.YtppkmifkpjkgpaaGreatDoor
open Go.RowKit
open Go.Proofs.Tryz
set_option linter.unusedSimpArgs false
set_option linter.unusedVariables false
set_option maxHeartbeats 8000000
set_option maxRecDepth 1000000
theorem RBag.mono{w0 b w:Vz}{L M:List (Nat × Rat × Nat)}(h:RBag b w L)(c:Bl w0 b)(d:∀t,t∈ M->∃k,(t.1,t.2.1,k)∈ L/\k<=t.2.2):RBag w0 w M:=by
 refine⟨c.trans (h.base.mono c.size),h.glob,fun t e=>?_⟩;obtain⟨k,hk,a⟩:=d t e;have:=h.ts _ hk;exact⟨this.1,this.2.1.mono a,Nat.lt_of_lt_of_le this.2.2 a⟩
theorem SB.other{w:Vz}{b g:Nat}{t:Vr}{C:Vw}(h:SB w b t C)(a:b≠g)(i:Nat)(v:Value):SB (w.setCell ⟨g,i,none⟩ v) b t C:=by
 unfold SB at h ⊢;rw[Below.heap_setCell _ _ _ _ a];exact h
theorem Row.only32{w w':Vz}{a:Vx}{cap:Nat}{l:Vy}{c:Nat}(h:Row .u32 w a cap l)(e:Only c w w')(m:∀(i:Nat) (n:Int),w.cell? ⟨c,i,none⟩≠some (.int .u32 n)):Row .u32 w' a cap l:=by
 refine⟨h.fit,?_,fun i o=>?_⟩
 .
  rcases h.shape with f|⟨d,b,rfl,j⟩
  . exact .inl f
  . exact .inr ⟨d,b,rfl,by have:=e.size;omega⟩
 .
  obtain⟨d,b,f,j,k⟩:=h.cell i o;have g:d≠c:=by
   rintro rfl;exact m _ _ k
  exact⟨d,b,f,by have:=e.size;omega,(World.cell?_of_block (w:=w) (e.block d j g)).trans k⟩
theorem RatVal.only32{w w':Vz}{b c:Nat}{q:Rat}{t:Vr}{C:Vw}(h:RatVal w b q)(e:Only c w w')(hs:SB w c t C)(g:t≠124)(j:∀(i:Nat) (n:Int),C[i]?≠some (.int .u32 n)):RatVal w' b q:=by
 obtain⟨D,k,c1,l,m,c2,o,h,p⟩:=h;have f:b≠c:=by
  rintro rfl;have a:=h.sb;unfold SB at a hs;rw[hs] at a;injection a with a
  injection a with _ r _
  exact g r
 have d:∀(i:Nat) (n:Int),w.cell? ⟨c,i,none⟩≠some (.int .u32 n):=fun i n=>by rw[hs.cell];exact j i n
 exact⟨D,k,c1,l,m,c2,o,⟨h.sb.only e f,⟨h.num.row.only32 e d,h.num.num,h.num.short⟩,⟨h.den.row.only32 e d,h.den.num,h.den.short⟩⟩,p⟩
structure U64 (w:Vz) (a:Vx) (cap:Nat) (l:Vy) (n:Nat):Prop where
 row:Row .u64 w a cap l
 num:Num 18446744073709551616 l n
 short:l.length<=1099511627776
theorem U64.below{w w':Vz}{a:Vx}{cap:Nat}{l:Vy}{n:Nat}(h:U64 w a cap l n)(b:Bl w w'):U64 w' a cap l n:=⟨h.row.below b,h.num,h.short⟩
theorem U64.drew{w:Vz}{a:Vx}{cap:Nat}{l:Vy}{n:Nat}(h:U64 w a cap l n):U64 w.drew a cap l n:=h.below bR.drew
theorem U64.nil(w:Vz):U64 w none 0 [] 0:=⟨Row.nil _ _,Num.zero _,by simp⟩
theorem Qc8(L:Int)(n:Nat)(a:L=n)(b:n<=2199023255552)(w:Vz):
 (Instr.makeSlice 139 (.int .i64 L) (.int .i64 L)).run prog w=.ok (.slice (some ⟨w.heap.size,0,none⟩) n n) (w.alloc (.cells (wordCells .u64 (zeros n)) 170)):=by
 subst a;rw[<-Qea];exact Go.run_make_row' 139 170 (.int .u64 0) 8 underlying139 Tryz.info64 rfl .i64 .i64 n (by omega) (by omega) w
theorem add64(x y c:Nat)(b:x<18446744073709551616)(e:y<18446744073709551616)(a:c<=1):∃r d:Nat,r<18446744073709551616/\d<=1/\r+18446744073709551616*d=x+y+c/\
 ∀w,(callFunc 212 #[.int .u64 x,.int .u64 y,.int .u64 c]).run prog w=.ok (.value (.tuple #[.int .u64 (r:Int),.int .u64 (d:Int)])) w:=
 ⟨(x+y+c) % 18446744073709551616,(x+y+c) / 18446744073709551616,by omega,by omega,by omega,fun w=>Any7.bits_Add64 Tryz.lays25 x y c a w⟩
theorem Qc9(x y:Nat)(a:x<18446744073709551616)(b:y<18446744073709551616):∃r d:Nat,r<18446744073709551616/\d<=1/\r+18446744073709551616*d=x+y/\
 ∀w,(callFunc 212 #[.int .u64 x,.int .u64 y,.int .u64 0]).run prog w=.ok (.value (.tuple #[.int .u64 (r:Int),.int .u64 (d:Int)])) w:=
 add64 x y 0 a b (by decide)
theorem sub64(x y c:Nat)(b:x<18446744073709551616)(e:y<18446744073709551616)(a:c<=1):∃r d:Nat,r<18446744073709551616/\d<=1/\r+c+y=x+18446744073709551616*d/\
 ∀w,(callFunc 226 #[.int .u64 x,.int .u64 y,.int .u64 c]).run prog w=.ok (.value (.tuple #[.int .u64 (r:Int),.int .u64 (d:Int)])) w:=by
 refine⟨(x+18446744073709551616 - y - c) % 18446744073709551616,if x<y+c then 1 else 0,by omega,by split<;>omega,by split<;>omega,fun w=>Any7.bits_Sub64 Tryz.lays26 x y c a w⟩
theorem Qjo(x y:Nat)(a:x<18446744073709551616)(b:y<18446744073709551616):∃r d:Nat,r<18446744073709551616/\d<=1/\r+y=x+18446744073709551616*d/\
 ∀w,(callFunc 226 #[.int .u64 x,.int .u64 y,.int .u64 0]).run prog w=.ok (.value (.tuple #[.int .u64 (r:Int),.int .u64 (d:Int)])) w:=
 sub64 x y 0 a b (by decide)
theorem mul64(x y:Nat)(a:x<18446744073709551616)(b:y<18446744073709551616):∃h l:Nat,h<18446744073709551616/\l<18446744073709551616/\l+18446744073709551616*h=x*y/\
 ∀w,Calls prog 211 #[.int .u64 x,.int .u64 y] w fun e w'=>e=.returned (.tuple #[.int .u64 (h:Int),.int .u64 (l:Int)])/\w'=w:=by
 refine⟨x*y / 18446744073709551616,x*y % 18446744073709551616,?_,Nat.mod_lt _ (by decide),Nat.mod_add_div _ _,fun w=>Any.bits_Mul64 Tryz.lays264 x y a b w⟩;rw[Nat.div_lt_iff_lt_mul (by decide)];exact Nat.mul_lt_mul'' a b
theorem Qb1(a:Vx)(cap:Nat)(l:Vy)(i:Nat)(w:Vz)(h:Row .u64 w a cap l)(hl:l.length<=1099511627776)(k:i<=2199023255552):
 Calls prog 199 #[.slice a l.length cap,.int .i64 i] w fun e w'=>e=.returned (.int .u64 ((l.getD i 0:Nat):Int))/\w'=w:=by
 by_cases c:i<l.length
 .
  obtain⟨b,g,rfl,m,j⟩:=h.cell i c;obtain⟨d,f⟩:=nm (l.getD i 0);rw[f] at j;rw[f];clear f h;go_enter func199,ntmps199;go_wp2;go_ret;exact⟨rfl,rfl⟩
 .
  rw[Qbv l i (by omega)];clear h;go_enter func199,ntmps199;go_wp2;go_ret;exact⟨rfl,rfl⟩
theorem Qqy(l:Vy)(k:Nat)(hk:k<=l.length)(h:k=0∨l.getD (k - 1) 0≠0):Trim (l.take k):=by
 rcases h with rfl|h
 . left;simp
 .
  by_cases a:k=0
  . left;subst a;simp
  .
   right;rw[List.length_take,Nat.min_eq_left hk,List.getD_eq_getElem?_getD,List.getElem?_take_of_lt (by omega),<-List.getD_eq_getElem?_getD];exact h
theorem Qqz(l:Vy)(k:Nat)(hk:k<l.length)(h:l.getD k 0=0):val 18446744073709551616 (l.take (k+1))=val 18446744073709551616 (l.take k):=by
 rw[Qbu _ l k hk,h];simp
theorem Qga(a:Vx)(cap:Nat)(l:Vy)(w:Vz)(h:Row .u64 w a cap l)(hl:l.length<=1099511627776):
 Calls prog 204 #[.slice a l.length cap] w fun e w'=>(∃k,k<=l.length/\e=.returned (.slice a k cap)/\val 18446744073709551616 (l.take k)=val 18446744073709551616 l/\Trim (l.take k))/\w'=w:=by
 have i:=h.fit;go_enter func204,ntmps204;go_wp2;go_loop [3] (fun n=>∃k:Nat,k<=l.length/\n=.int .i64 k/\val 18446744073709551616 (l.take k)=val 18446744073709551616 l) (fun n=>(intOf n).toNat)
 case atStart=>exact⟨l.length,Nat.le_refl _,rfl,by rw[List.take_length]⟩
 case round=>
  obtain⟨k,hk,rfl,m⟩:=hrel;have c:O (val 18446744073709551616 (l.take k)=val 18446744073709551616 l):=m;clear m;by_cases s:k=0
  .
   subst s;rcases h.shape with ⟨rfl,rfl⟩|⟨b,f,rfl,t⟩
   all_goals
    go_wp2;go_ret;exact⟨⟨0,by omega,by simp,c.o,.inl (by simp)⟩,rfl⟩
  .
   obtain⟨b,f,rfl,t,p⟩:=h.cell (k - 1) (by omega);obtain⟨j,rfl⟩:∃j,k=j+1:=⟨k - 1,by omega⟩;simp only[Nat.add_sub_cancel] at p;obtain⟨d,g⟩:=nm (l.getD j 0);rw[g] at p;have q:O (l.getD j 0=d):=g;clear g;by_cases r:d=0
   .
    subst r;go_wp2;go_round
    case rel=>exact⟨j,by omega,by go_num,(Qqz l j (by omega) q.o).symm.trans c.o⟩
    case measure=>simp[intOf]
   .
    have u:((d:Int) == 0)=false:=by simp;omega
    go_wp2;go_ret;exact⟨⟨j+1,hk,by simp,c.o,Qqy l (j+1) hk (.inr (by rw[Nat.add_sub_cancel,q.o];exact r))⟩,rfl⟩
theorem Qda(g n cap x:Nat)(rs:Vy)(w:Vz)(h:Blk .u64 170 w g rs)(hl:rs.length=n)(hs:Small 18446744073709551616 rs)(i:n<=cap)(k:n<=1099511627776)(j:val 18446744073709551616 rs=x):
 Calls prog 204 #[.slice (some ⟨g,0,none⟩) n cap] w fun e w'=>(∃r,e=.returned (.slice (some ⟨g,0,none⟩) r.length cap)/\U64 w (some ⟨g,0,none⟩) cap r x)/\w'=w:=by
 have b:=h.row n (by omega) cap i;rw[List.take_of_length_le (by omega)] at b;have f:=Qga (some ⟨g,0,none⟩) cap rs w b (by omega);rw[hl] at f;refine f.mono ?_;rintro e l ⟨⟨q,m,rfl,c,d⟩,rfl⟩;have a:(rs.take q).length=q:=by rw[List.length_take];omega
 exact⟨⟨rs.take q,by rw[a],b.take q (by omega),⟨hs.take q,d,c.trans j⟩,by rw[a];omega⟩,rfl⟩
theorem Qq0{l:Vy}(h:Num 18446744073709551616 l 1):l= [1]:=h.inj (by decide) ⟨fun d a=>by simp at a;omega,.inr (by simp),by simp[val]⟩
theorem Qdb(a:Vx)(cap:Nat)(l:Vy)(n:Nat)(w:Vz)(h:U64 w a cap l n):
 Calls prog 162 #[.slice a l.length cap] w fun e w'=>e=.returned (.bool (decide (n=1)))/\w'=w:=by
 have hs:=h.short;by_cases j:l.length=1
 .
  obtain⟨b,m,rfl,p,i⟩:=h.row.cell 0 (by omega);obtain⟨d,f⟩:=nm (l.getD 0 0);rw[f] at i;have o:n=d:=by
   rw[<-h.num.eq]
   match l,j with
   | [x],_=>simp at f;simp[val,f]
  subst o;rw[Nat.add_zero] at i;by_cases c:n=1
  .
   subst c;clear h f;go_enter func162,ntmps162;go_wp2;go_ret;exact⟨rfl,rfl⟩
  .
   have k:((n:Int) == 1)=false:=by rw[beq_eq_false_iff_ne];omega
   rw[show decide (n=1)=false by simpa using c];clear h f c;go_enter func162,ntmps162;go_wp2;go_ret;exact⟨by simp[k],rfl⟩
 .
  have g:n≠1:=fun i=>j (by subst i;rw[Qq0 h.num];rfl)
  have k:((l.length:Int) == 1)=false:=by rw[beq_eq_false_iff_ne];omega
  rw[show decide (n=1)=false by simpa using g];clear h j g;go_enter func162,ntmps162;go_wp2;go_ret;exact⟨rfl,rfl⟩
theorem Qdc(G H:Vx)(c1 c2:Nat)(l m:Vy)(x y:Nat)(w:Vz)(a:U64 w G c1 l x)(c:U64 w H c2 m y):
 Calls prog 190 #[.slice G l.length c1,.slice H m.length c2] w fun e w'=>e=.returned (.int .i64 (cmp3 x y))/\Bl w w':=by
 have Q:=a.short;have R:=c.short;by_cases f:l.length<m.length
 .
  have u:((l.length:Int) != (m.length:Int))=true:=by rw[bne_iff_ne];omega
  have v:cmp3 x y= -1:=Qc1 (by rw[<-a.num.eq,<-c.num.eq];exact Qav (by omega) a.num.small c.num.trim f);have A:O (cmp3 x y= -1):=v;clear v a c;go_enter func190,ntmps190;go_wp2;go_ret;exact⟨by rw[A.o];rfl,Below.refl _ _⟩
 by_cases n:m.length<l.length
 .
  have u:((l.length:Int) != (m.length:Int))=true:=by rw[bne_iff_ne];omega
  have v:cmp3 x y=1:=Qdz (by rw[<-a.num.eq,<-c.num.eq];exact Qav (by omega) c.num.small a.num.trim n);have A:O (cmp3 x y=1):=v;clear v a c;go_enter func190,ntmps190;go_wp2;go_ret;exact⟨by rw[A.o];rfl,Below.refl _ _⟩
 have p:m.length=l.length:=by omega
 have I:O (m.length=l.length):=p;rw[p];have u:((l.length:Int) != (l.length:Int))=false:=by simp
 clear f n p;go_enter func190,ntmps190;go_wp2;go_loopw [5] (fun i wr=>∃k:Nat,k<=l.length/\i=.int .i64 ((k:Int) - 1)/\l.drop k=m.drop k/\Bl w wr) (fun i _=>(intOf i+1).toNat)
 case atStart=>exact⟨l.length,Nat.le_refl _,rfl,by rw[List.drop_of_length_le lZ,List.drop_of_length_le (by rw[I.o];exact Nat.le_refl _)],Below.refl _ _⟩
 case round=>
  obtain⟨k,hk,rfl,s,t⟩:=hrel;have z:O (l.drop k=m.drop k):=s;clear s;by_cases M:k=0
  .
   subst M;go_wp2;go_ret;exact⟨by rw[Qic (by rw[<-a.num.eq,<-c.num.eq];have:=z.o;simp at this;rw[this])];rfl,t⟩
  .
   obtain⟨j,rfl⟩:∃j,k=j+1:=⟨k - 1,by omega⟩;have g:j<l.length:=by omega
   have h:j<m.length:=by have:=I.o;omega
   obtain⟨b,N,rfl,B,q⟩:=a.row.cell j g;obtain⟨S,J,rfl,C,r⟩:=c.row.cell j h;obtain⟨d,s⟩:=nm (l.getD j 0);obtain⟨e,D⟩:=nm (m.getD j 0);rw[s] at q;rw[D] at r;have K:=ce t B q;have L:=ce t C r;have E:O (l.getD j 0=d):=s;have F:O (m.getD j 0=e):=D;clear s D q r;have P:((j+1:Nat):Int) - 1=(j:Int):=by omega
   rw[P];by_cases f:d<e
   .
    go_wp2;go_region
    all_goals
     go_wp2;go_ret;exact⟨by rw[Qc1 (by rw[<-a.num.eq,<-c.num.eq];exact Qd0 (by omega) a.num.small j g h z.o (by rw[E.o,F.o];exact f))];rfl,t.drew⟩
   by_cases n:e<d
   .
    go_wp2;go_region
    all_goals
     go_wp2;go_region
    all_goals
     go_wp2;go_ret;exact⟨by rw[Qdz (by rw[<-a.num.eq,<-c.num.eq];exact Qd0 (by omega) c.num.small j h g z.o.symm (by rw[E.o,F.o];omega))];rfl,t.drew.drew⟩
   .
    go_wp2;go_region
    all_goals
     go_wp2;go_region
    all_goals
     go_wp2;go_roundw
     case rel=>exact⟨j,by omega,by go_num,Qid g h z.o (E.o.trans ((show d=e by omega).trans F.o.symm)),t.drew.drew⟩
     case measure=>simp[intOf]
theorem Qq1(k c d e r a:Nat)(rs l m:Vy)(hk:k<rs.length)(b:l.getD k 0=d)(f:m.getD k 0=e)(g:r+18446744073709551616*a=d+e+c)
 (h:val 18446744073709551616 (rs.take k)+18446744073709551616 ^ k*c=val 18446744073709551616 (l.take k)+val 18446744073709551616 (m.take k)):
 val 18446744073709551616 ((rs.set k r).take (k+1))+18446744073709551616 ^ (k+1)*a=val 18446744073709551616 (l.take (k+1))+val 18446744073709551616 (m.take (k+1)):=by
 rw[take_set _ _ _ hk,Qak,List.length_take,Nat.min_eq_left (by omega),Qac,Qac,b,f,Nat.pow_succ];have i:18446744073709551616 ^ k*(r+18446744073709551616*a)=18446744073709551616 ^ k*(d+e+c):=by rw[g]
 rw[Nat.mul_add,Nat.mul_add,Nat.mul_add,<-Nat.mul_assoc] at i;omega
theorem Qq2(C D:Vx)(c1 c2:Nat)(l m:Vy)(x y:Nat)(w:Vz)(W:U64 w C c1 l x)(X:U64 w D c2 m y)(hl:l.length<1099511627776)(hm:m.length<1099511627776):
 Calls prog 201 #[.slice C l.length c1,.slice D m.length c2] w fun e w'=>(∃a cap r,e=.returned (.slice a r.length cap)/\U64 w' a cap r (x+y))/\Bl w w':=by
 obtain⟨n,hn,E,F⟩:∃n,max l.length m.length=n/\l.length<=n/\m.length<=n:=⟨_,rfl,by omega,by omega⟩;have aa:max (l.length:Int) (m.length:Int)=(n:Int):=by omega
 have G:∀w,(Instr.makeSlice 139 (.int .i64 ((n:Int)+1)) (.int .i64 ((n:Int)+1))).run prog w=.ok (.slice (some ⟨w.heap.size,0,none⟩) (n+1) (n+1)) (w.alloc (.cells (wordCells .u64 (zeros (n+1))) 170)):=
  fun w=>Qc8 _ (n+1) (by omega) (by omega) w
 have ab:n<1099511627776:=by omega
 obtain⟨H,I⟩:=Ia W X;clear W X hn;go_enter func201,ntmps201;go_wp2;clear G;go_loopw [7,18] (fun c i wr=>∃(k q:Nat) (rs:Vy),k<=n/\q<=1/\c=.int .u64 q/\i=.int .i64 k/\Blk .u64 170 wr w.heap.size rs/\rs.length=n+1/\Small 18446744073709551616 rs/\
  val 18446744073709551616 (rs.take k)+18446744073709551616 ^ k*q=val 18446744073709551616 (l.take k)+val 18446744073709551616 (m.take k)/\Bl w wr) (fun _ i _=>n - (intOf i).toNat)
 case atStart=>exact⟨0,0,zeros (n+1),by omega,by omega,rfl,rfl,Blk.new _ _ _ _,Qaf _,Qal _ _ (by omega),by simp[val],bR.alloc lZ _⟩
 case round=>
  obtain⟨k,c,rs,hk,hc,rfl,rfl,hB,g,s,Y,Z⟩:=hrel;obtain⟨HV,b,HB,t,f⟩:=Id Y g hB s Z;clear Y s Z;by_cases ad:k<n
  .
   obtain⟨d,A⟩:=nm (l.getD k 0);obtain⟨e,B⟩:=nm (m.getD k 0);have J:d<18446744073709551616:=by rw[<-A];exact H.o.num.small.getD (by omega) k
   have K:e<18446744073709551616:=by rw[<-B];exact I.o.num.small.getD (by omega) k
   obtain⟨r,q,hr,L,u,h⟩:=add64 d e c J K hc;obtain⟨z,v⟩:=nm (rs.getD k 0);have g1:=hB.free k;have M:=hB.cell k (by omega);rw[v] at M;obtain⟨j,p⟩:=Ia (Qb1 C c1 l k wr (H.o.row.below f.o) (by omega) (by omega)) (Qb1 D c2 m k wr (I.o.row.below f.o) (by omega) (by omega));rw[A] at j;rw[B] at p;obtain⟨N,O,P⟩:=Ib A B u;clear A B v hB g u;go_wp2_with fail;refine j.o.mono ?_;rintro Q w1 ⟨rfl,R⟩;subst R;go_wp2_with fail;refine p.o.mono ?_;rintro Q w2 ⟨rfl,S⟩;subst S;clear j p;go_wp2_with (simp only[h]);go_roundw
   case rel=>exact⟨k+1,q,rs.set k r,by omega,L,rfl,by go_num,HB.o.set k _,by rw[List.length_set];exact b.o,t.o.set k hr,Qq1 k c d e r q rs l m (by have:=b.o;omega) N.o O.o P.o HV.o,f.o.setCell lZ _⟩
   case measure=>simp[intOf];omega
  .
   obtain⟨z,v⟩:=nm (rs.getD n 0);have g1:=hB.free n;have M:=hB.cell n (by omega);rw[v] at M;clear v hB g;go_wp2_with fail;have T:(rs.set n c).length=n+1:=by rw[List.length_set];exact b.o
   have U:Blk .u64 170 (wr.setCell ⟨w.heap.size,n,none⟩ (.int .u64 (c:Int))) w.heap.size (rs.set n c):=HB.o.set n c;have V:val 18446744073709551616 (rs.set n c)=x+y:=by
    rw[Qfh _ _ _ _ b.o];have Q:k=n:=by omega
    have e2:=HV.o;rw[Q,Qa7 _ l _ E,Qa7 _ m _ F,H.o.num.eq,I.o.num.eq] at e2;omega
   refine(Qda w.heap.size (n+1) (n+1) (x+y) (rs.set n c) _ U T (t.o.set _ (by omega)) lZ (by omega) V).mono ?_;rintro e w1 ⟨⟨r,rfl,hu⟩,rfl⟩;go_wp2;go_ret;exact⟨⟨_,_,r,rfl,hu⟩,f.o.setCell lZ _⟩
theorem Qq3(Y J:Vx)(c1 c2:Nat)(l m:Vy)(x y:Nat)(w:Vz)(t:U64 w Y c1 l x)(u:U64 w J c2 m y)(ab:y<=x):
 Calls prog 202 #[.slice Y l.length c1,.slice J m.length c2] w fun e w'=>(∃a cap r,e=.returned (.slice a r.length cap)/\U64 w' a cap r (x - y))/\Bl w w':=by
 have s1:=t.short;have s2:=u.short;have K:m.length<=l.length:=by
  apply bC;intro Z;have:=Qav (B:=18446744073709551616) (by decide) t.num.small u.num.trim (by omega);rw[t.num.eq,u.num.eq] at this;omega
 have L:∀w,(Instr.makeSlice 139 (.int .i64 (l.length:Int)) (.int .i64 (l.length:Int))).run prog w=.ok (.slice (some ⟨w.heap.size,0,none⟩) l.length l.length) (w.alloc (.cells (wordCells .u64 (zeros l.length)) 170)):=
  fun w=>Qc8 _ l.length rfl (by omega) w
 obtain⟨M,N⟩:=Ia t u;clear t u;go_enter func202,ntmps202;go_wp2;clear L;go_loopw [7,14] (fun c i wr=>∃(k s:Nat) (rs:Vy),k<=l.length/\s<=1/\c=.int .u64 s/\i=.int .i64 k/\Blk .u64 170 wr w.heap.size rs/\rs.length=l.length/\Small 18446744073709551616 rs/\
  val 18446744073709551616 (rs.take k)+val 18446744073709551616 (m.take k)=val 18446744073709551616 (l.take k)+18446744073709551616 ^ k*s/\Bl w wr) (fun _ i _=>l.length - (intOf i).toNat)
 case atStart=>exact⟨0,0,zeros l.length,by omega,by omega,rfl,rfl,Blk.new _ _ _ _,Qaf _,Qal _ _ (by omega),by simp[val],bR.alloc lZ _⟩
 case round=>
  obtain⟨k,c,rs,hk,Z,rfl,rfl,hB,v,A,hv,hb⟩:=hrel;obtain⟨HV,f,HB,n,g⟩:=Id hv v hB A hb;clear hv A hb;by_cases O:k<l.length
  .
   obtain⟨b,C,rfl,D,j⟩:=M.o.row.cell k O;obtain⟨d,H⟩:=nm (l.getD k 0);obtain⟨e,I⟩:=nm (m.getD k 0);have P:d<18446744073709551616:=by rw[<-H];exact M.o.num.small.getD (by omega) k
   have Q:e<18446744073709551616:=by rw[<-I];exact N.o.num.small.getD (by omega) k
   rw[H] at j;have aa:=ce g.o D j;obtain⟨r,s,hr,R,E,q⟩:=sub64 d e c P Q Z;obtain⟨z,hz⟩:=nm (rs.getD k 0);have g1:=hB.free k;have g2:=hB.cell k (by omega);rw[hz] at g2;have F:=Hi (Qb1 J c2 m k wr.drew (N.o.row.below g.o.drew) (by omega) (by omega));rw[I] at F;obtain⟨S,T,U⟩:=Ib H I E;have i0:(0:Int)<=(k:Int):=by omega
   have i1:(k:Int)<(l.length:Int):=by omega
   have ad:=(((g.o.setCell (p:=⟨w.heap.size,k,none⟩) lZ (.int .u64 (r:Int))).drew).cell (p:=⟨b,C+k,none⟩) D).trans j;clear H I hz hB v E j;go_wp2_with fail;go_region_held3 (fun w'=>w'.cell? ⟨b,C+k,none⟩=some (.int .u64 d)) ((simp [*])) (first
    |(
     go_at_call 199;refine F.o.mono ?_;rintro e1 w2 ⟨rfl,V⟩
     subst V)
    |simp only[q])
   go_wp2;go_roundw
   case rel=>exact⟨k+1,s,rs.set k r,by omega,R,rfl,by go_num,(HB.o.set k _).drew,by rw[List.length_set];exact f.o,n.o.set k hr,Qfi _ k c d e r s rs l m (by have:=f.o;omega) S.o T.o U.o HV.o,(g.o.setCell lZ _).drew⟩
   case measure=>simp[intOf];omega
  .
   have e1:k=l.length:=by omega
   go_wp2_with fail;have W:val 18446744073709551616 rs=x - y:=by
    have e2:=HV.o;have G:=Qaa (B:=18446744073709551616) (by decide) n.o;rw[f.o] at G;rw[e1,List.take_of_length_le (by have:=f.o;omega),Qa7 _ m _ K,List.take_length,M.o.num.eq,N.o.num.eq] at e2;have X:c=0:=by
     rcases Nat.eq_zero_or_pos c with h|h
     . exact h
     .
      have:c=1:=by omega
      subst this;omega
    subst X;omega
   refine(Qda w.heap.size l.length l.length (x - y) rs _ HB.o f.o n.o lZ (by omega) W).mono ?_;rintro e w1 ⟨⟨r,rfl,hu⟩,rfl⟩;go_wp2;go_ret;exact⟨⟨_,_,r,rfl,hu⟩,g.o⟩
structure RowDone (w w':Vz) (g off n:Nat) (rs rs':Vy):Prop where
 blk:Blk .u64 170 w' g rs'
 len:rs'.length=rs.length
 small:Small 18446744073709551616 rs'
 only:Only g w w'
 o:∀p,p<off∨off+n<=p->rs'.getD p 0=rs.getD p 0
theorem Row.onlyG{k:IntKind}{w w':Vz}{a:Vx}{cap:Nat}{l:Vy}{g:Nat}(h:Row k w a cap l)(f:Only g w w')(j:∀b c,a=some ⟨b,c,none⟩->b≠g):Row k w' a cap l:=by
 refine⟨h.fit,?_,fun i n=>?_⟩
 .
  rcases h.shape with e|⟨d,c,rfl,m⟩
  . exact .inl e
  . exact .inr ⟨d,c,rfl,by have:=f.size;omega⟩
 . obtain⟨d,c,e,m,o⟩:=h.cell i n
   exact⟨d,c,e,by have:=f.size;omega,(World.cell?_of_block (w:=w) (f.block d m (j d c e))).trans o⟩
theorem U64.onlyG{w w':Vz}{a:Vx}{cap:Nat}{l:Vy}{n g:Nat}(h:U64 w a cap l n)(e:Only g w w')(c:∀b d,a=some ⟨b,d,none⟩->b≠g):U64 w' a cap l n:=⟨h.row.onlyG e c,h.num,h.short⟩
theorem Qgc{rs b:Vy}{a j x:Nat}(h:∀p,p<a∨a+j<=p->b.getD p 0=rs.getD p 0):∀p,p<a∨a+(j+1)<=p->(b.set (a+j) x).getD p 0=rs.getD p 0:=by
 intro p c;rw[getD_set_ne _ _ _ _ (by omega)];exact h p (by omega)
theorem Qjz(B p a c over b t R:Nat)(rs:Vy)(d:p<rs.length)(e:rs.getD p 0=a)(f:c+B*b=a+t+over)(h:val B rs+B ^ p*over=R):
 val B (rs.set p c)+B ^ (p+1)*b=R+B ^ p*t:=by
 have g:=Qbf B rs p c d;rw[e] at g;have i:B ^ p*(c+B*b)=B ^ p*(a+t+over):=by rw[f]
 rw[Nat.mul_add,Nat.mul_add,Nat.mul_add,<-Nat.mul_assoc] at i;rw[Nat.pow_succ];omega
theorem Qrt(B p a d c b t R S:Nat)(rs:Vy)(e:p<rs.length)(f:rs.getD p 0=a)(g:d+t+c=a+B*b)(h:val B rs+S=R+B ^ p*c):
 val B (rs.set p d)+(S+B ^ p*t)=R+B ^ (p+1)*b:=by
 have i:=Qbf B rs p d e;rw[f] at i;have j:B ^ p*(d+t+c)=B ^ p*(a+B*b):=by rw[g]
 rw[Nat.mul_add,Nat.mul_add,Nat.mul_add,<-Nat.mul_assoc] at j;rw[Nat.pow_succ];omega
theorem Qgd{v d over:Nat}(a:v<18446744073709551616)(b:d<18446744073709551616):v*d<=18446744073709551615*18446744073709551615:=Nat.mul_le_mul (by omega) (by omega)
theorem Qge(B a j d:Nat)(m:Vy):B ^ a*(d*val B (m.take (j+1)))=B ^ a*(d*val B (m.take j))+B ^ (a+j)*(m.getD j 0*d):=by
 rw[Qac,Nat.mul_add,Nat.mul_add,Nat.pow_add]
 congr 1
 rw[Nat.mul_assoc,Nat.mul_comm (m.getD j 0) d,<-Nat.mul_assoc d,Nat.mul_comm d (B ^ j),Nat.mul_assoc]
theorem Qru(g a cap:Nat)(rs:Vy)(E:Vx)(c2:Nat)(m:Vy)(d:Nat)(w:Vz)(hB:Blk .u64 170 w g rs)(r:Small 18446744073709551616 rs)(Z:Row .u64 w E c2 m)(s:Small 18446744073709551616 m)(ag:m.length<=1099511627776)(hd:d<18446744073709551616)
 (aa:a+m.length<=rs.length) (ab:m.length<=cap) (t:∀b o,E=some ⟨b,o,none⟩->b≠g):
 Calls prog 203 #[.slice (some ⟨g,a,none⟩) m.length cap,.slice E m.length c2,.int .u64 d] w fun e w'=>∃over u,e=.returned (.int .u64 ((over:Nat):Int))/\over<18446744073709551616/\RowDone w w' g a m.length rs u/\val 18446744073709551616 u+18446744073709551616 ^ (a+m.length)*over=val 18446744073709551616 rs+18446744073709551616 ^ a*(d*val 18446744073709551616 m):=by
 obtain⟨F,G,HM,H,I⟩:=Id hB r Z s t;clear hB r Z s t;go_enter func203,ntmps203;go_wp2;go_loopw [7,19] (fun o i wr=>∃(k over:Nat) (n:Vy),k<=m.length/\over<18446744073709551616/\o=.int .u64 over/\i=.int .i64 k/\RowDone w wr g a k rs n/\val 18446744073709551616 n+18446744073709551616 ^ (a+k)*over=val 18446744073709551616 rs+18446744073709551616 ^ a*(d*val 18446744073709551616 (m.take k))) (fun _ i _=>m.length - (intOf i).toNat)
 case atStart=>exact⟨0,0,rs,by omega,by omega,rfl,rfl,⟨F.o,rfl,G.o,Only.refl _ _,fun _ _=>rfl⟩,by simp[val]⟩
 case round=>
  obtain⟨k,over,n,hk,x,rfl,rfl,q,p⟩:=hrel;obtain⟨c,HV⟩:=Ia q p;clear p;by_cases J:k<m.length
  .
   obtain⟨b,o,rfl,ah,K⟩:=(HM.o.onlyG c.o.only I.o).cell k J;obtain⟨v,p⟩:=nm (m.getD k 0);rw[p] at K;have y:v<18446744073709551616:=by rw[<-p];exact H.o.getD (by omega) k
   obtain⟨z,D⟩:=nm (n.getD (a+k) 0);have L:z<18446744073709551616:=by rw[<-D];exact c.o.small.getD (by omega) _
   have g1:=q.blk.free (a+k);have g2:=q.blk.cell (a+k) (by rw[q.len];omega);rw[D] at g2;obtain⟨h,l,hh,hl,M,A⟩:=mul64 v d y hd;obtain⟨l',c1,N,ad,O,P⟩:=Qc9 l over hl x;obtain⟨Q,f,R,ae,S,T⟩:=Qc9 z l' L N;have B:=Qgd (over:=over) y hd;have j:Q+18446744073709551616*(h+c1+f)=z+v*d+over:=by omega
   have U:h+c1+f<18446744073709551616:=by omega
   have af:h+c1<18446744073709551616:=by omega
   obtain⟨V,C,W,X⟩:=Ic A j p D;clear q p D A j M O S B;go_wp2_with (first|(go_at_call 211;refine(V.o _).mono ?_;rintro e w2 ⟨rfl,Y⟩;subst Y)|simp only[P]|simp only[T]);go_roundw
   case rel=>
    refine⟨k+1,h+c1+f,n.set (a+k) Q,by omega,U,by go_num,by go_num,⟨c.o.blk.set _ _,by rw[List.length_set];exact c.o.len,c.o.small.set _ R,c.o.only.setCell _ _,Qgc c.o.o⟩,?_⟩;have h1:=Qjz 18446744073709551616 (a+k) z Q over (h+c1+f) (v*d) _ n (by rw[c.o.len];omega) X.o (by rw[C.o]) HV.o;rw[Nat.add_assoc] at h1;rw[h1,Qge,W.o];omega
   case measure=>simp[intOf];omega
  .
   have e1:k=m.length:=by omega
   subst e1;clear q;go_wp2;go_ret;exact⟨over,n,rfl,x,c.o,by have:=HV.o;rw[List.take_length] at this;exact this⟩
theorem Qrv(g a cap:Nat)(rs:Vy)(E:Vx)(c2:Nat)(m:Vy)(d:Nat)(w:Vz)(hB:Blk .u64 170 w g rs)(r:Small 18446744073709551616 rs)(Z:Row .u64 w E c2 m)(s:Small 18446744073709551616 m)(ag:m.length<=1099511627776)(hd:d<18446744073709551616)
 (aa:a+m.length<=rs.length) (ab:m.length<=cap) (t:∀b o,E=some ⟨b,o,none⟩->b≠g):
 Calls prog 231 #[.slice (some ⟨g,a,none⟩) m.length cap,.slice E m.length c2,.int .u64 d] w fun e w'=>∃over u,e=.returned (.int .u64 ((over:Nat):Int))/\over<18446744073709551616/\RowDone w w' g a m.length rs u/\val 18446744073709551616 u+18446744073709551616 ^ a*(d*val 18446744073709551616 m)=val 18446744073709551616 rs+18446744073709551616 ^ (a+m.length)*over:=by
 obtain⟨F,G,HM,H,I⟩:=Id hB r Z s t;clear hB r Z s t;go_enter func231,ntmps231;go_wp2;go_loopw [7,19] (fun o i wr=>∃(k over:Nat) (n:Vy),k<=m.length/\over<18446744073709551616/\o=.int .u64 over/\i=.int .i64 k/\RowDone w wr g a k rs n/\val 18446744073709551616 n+18446744073709551616 ^ a*(d*val 18446744073709551616 (m.take k))=val 18446744073709551616 rs+18446744073709551616 ^ (a+k)*over) (fun _ i _=>m.length - (intOf i).toNat)
 case atStart=>exact⟨0,0,rs,by omega,by omega,rfl,rfl,⟨F.o,rfl,G.o,Only.refl _ _,fun _ _=>rfl⟩,by simp[val]⟩
 case round=>
  obtain⟨k,over,n,hk,x,rfl,rfl,q,p⟩:=hrel;obtain⟨c,HV⟩:=Ia q p;clear p;by_cases J:k<m.length
  .
   obtain⟨b,o,rfl,ah,K⟩:=(HM.o.onlyG c.o.only I.o).cell k J;obtain⟨v,p⟩:=nm (m.getD k 0);rw[p] at K;have y:v<18446744073709551616:=by rw[<-p];exact H.o.getD (by omega) k
   obtain⟨z,D⟩:=nm (n.getD (a+k) 0);have L:z<18446744073709551616:=by rw[<-D];exact c.o.small.getD (by omega) _
   have g1:=q.blk.free (a+k);have g2:=q.blk.cell (a+k) (by rw[q.len];omega);rw[D] at g2;obtain⟨h,l,hh,hl,M,A⟩:=mul64 v d y hd;obtain⟨l',c1,N,ad,O,P⟩:=Qc9 l over hl x;obtain⟨Q,f,R,ae,S,T⟩:=Qjo z l' L N;have B:=Qgd (over:=over) y hd;have j:Q+v*d+over=z+18446744073709551616*(h+c1+f):=by omega
   have U:h+c1+f<18446744073709551616:=by omega
   have af:h+c1<18446744073709551616:=by omega
   obtain⟨V,C,W,X⟩:=Ic A j p D;clear q p D A j M O S B;go_wp2_with (first|(go_at_call 211;refine(V.o _).mono ?_;rintro e w2 ⟨rfl,Y⟩;subst Y)|simp only[P]|simp only[T]);go_roundw
   case rel=>
    refine⟨k+1,h+c1+f,n.set (a+k) Q,by omega,U,by go_num,by go_num,⟨c.o.blk.set _ _,by rw[List.length_set];exact c.o.len,c.o.small.set _ R,c.o.only.setCell _ _,Qgc c.o.o⟩,?_⟩;have h1:=Qrt 18446744073709551616 (a+k) z Q over (h+c1+f) (v*d) _ _ n (by rw[c.o.len];omega) X.o C.o HV.o;rw[Nat.add_assoc a] at h1;rw[Qge,W.o];exact h1
   case measure=>simp[intOf];omega
  .
   have e1:k=m.length:=by omega
   subst e1;clear q;go_wp2;go_ret;exact⟨over,n,rfl,x,c.o,by have:=HV.o;rw[List.take_length] at this;exact this⟩
theorem Qrw(g a cap:Nat)(rs:Vy)(y:Vx)(c2:Nat)(m:Vy)(w:Vz)(hB:Blk .u64 170 w g rs)(j:Small 18446744073709551616 rs)(M:Row .u64 w y c2 m)(l:Small 18446744073709551616 m)(S:m.length<=1099511627776)
 (N:a+m.length<=rs.length) (O:m.length<=cap) (n:∀b o,y=some ⟨b,o,none⟩->b≠g):
 Calls prog 232 #[.slice (some ⟨g,a,none⟩) m.length cap,.slice y m.length c2] w fun e w'=>∃over p,e=.returned (.int .u64 ((over:Nat):Int))/\over<=1/\RowDone w w' g a m.length rs p/\val 18446744073709551616 p+18446744073709551616 ^ (a+m.length)*over=val 18446744073709551616 rs+18446744073709551616 ^ a*(1*val 18446744073709551616 m):=by
 obtain⟨A,B,T,C,D⟩:=Id hB j M l n;clear hB j M l n;go_enter func232,ntmps232;go_wp2;go_loopw [5,14] (fun o i wr=>∃(k over:Nat) (d:Vy),k<=m.length/\over<=1/\o=.int .u64 over/\i=.int .i64 k/\RowDone w wr g a k rs d/\val 18446744073709551616 d+18446744073709551616 ^ (a+k)*over=val 18446744073709551616 rs+18446744073709551616 ^ a*(1*val 18446744073709551616 (m.take k))) (fun _ i _=>m.length - (intOf i).toNat)
 case atStart=>exact⟨0,0,rs,by omega,by omega,rfl,rfl,⟨A.o,rfl,B.o,Only.refl _ _,fun _ _=>rfl⟩,by simp[val]⟩
 case round=>
  obtain⟨k,over,d,hk,q,rfl,rfl,h,f⟩:=hrel;obtain⟨c,P⟩:=Ia h f;clear f;by_cases E:k<m.length
  .
   obtain⟨b,o,rfl,U,F⟩:=(T.o.onlyG c.o.only D.o).cell k E;obtain⟨v,f⟩:=nm (m.getD k 0);rw[f] at F;have G:v<18446744073709551616:=by rw[<-f];exact C.o.getD (by omega) k
   obtain⟨z,x⟩:=nm (d.getD (a+k) 0);have H:z<18446744073709551616:=by rw[<-x];exact c.o.small.getD (by omega) _
   have X:=h.blk.free (a+k);have V:=h.blk.cell (a+k) (by rw[h.len];omega);rw[x] at V;obtain⟨Q,r,I,s,t,J⟩:=add64 z v over H G q;obtain⟨u,K,L⟩:=Ib t f x;clear h f x t;go_wp2_with (simp only[J]);go_roundw
   case rel=>
    refine⟨k+1,r,d.set (a+k) Q,by omega,s,by go_num,by go_num,⟨c.o.blk.set _ _,by rw[List.length_set];exact c.o.len,c.o.small.set _ I,c.o.only.setCell _ _,Qgc c.o.o⟩,?_⟩;have R:=Qjz 18446744073709551616 (a+k) z Q over r (v*1) _ d (by rw[c.o.len];omega) L.o (by rw[u.o];omega) P.o;rw[Nat.add_assoc] at R;rw[R,Qge,K.o];omega
   case measure=>simp[intOf];omega
  .
   have W:k=m.length:=by omega
   subst W;clear h;go_wp2;go_ret;exact⟨over,d,rfl,q,c.o,by have:=P.o;rw[List.take_length] at this;exact this⟩
theorem Qjy(M F:Vx)(c1 c2:Nat)(l m:Vy)(x y:Nat)(w:Vz)(C:U64 w M c1 l x)(D:U64 w F c2 m y)(ab:l.length+m.length<=1099511627776):
 Calls prog 177 #[.slice M l.length c1,.slice F m.length c2] w fun e w'=>(∃a cap r,e=.returned (.slice a r.length cap)/\U64 w' a cap r (x*y))/\Bl w w':=by
 obtain⟨N,E⟩:=Ia C D;by_cases G:l.length=0
 .
  have hx:x=0:=(C.num.len_zero (by decide)).2 G;have X:((l.length:Int) == 0)=true:=by simp[G]
  subst hx;clear C D;go_enter func177,ntmps177;go_wp2;go_ret;exact⟨⟨none,0,[],rfl,by rw[Nat.zero_mul];exact U64.nil _⟩,Below.refl _ _⟩
 by_cases H:m.length=0
 .
  have hy:y=0:=(D.num.len_zero (by decide)).2 H;have X:((l.length:Int) == 0)=false:=by rw[beq_eq_false_iff_ne];omega
  have q2:((m.length:Int) == 0)=true:=by simp[H]
  subst hy;clear C D;go_enter func177,ntmps177;go_wp2;go_ret;exact⟨⟨none,0,[],rfl,by rw[Nat.mul_zero];exact U64.nil _⟩,Below.refl _ _⟩
 have X:((l.length:Int) == 0)=false:=by rw[beq_eq_false_iff_ne];omega
 have q2:((m.length:Int) == 0)=false:=by rw[beq_eq_false_iff_ne];omega
 obtain⟨g,j⟩:=Ia (Qdb M c1 l x w C) (Qdb F c2 m y w D);clear C D;by_cases z:x=1
 .
  rw[show decide (x=1)=true by simpa using z] at g;go_enter func177,ntmps177;go_wp2_with fail;refine g.o.mono ?_;rintro e O ⟨rfl,f⟩;subst f;clear g j;go_wp2;go_ret;exact⟨⟨F,c2,m,rfl,by rw[z,Nat.one_mul];exact E.o⟩,Below.refl _ _⟩
 rw[show decide (x=1)=false by simpa using z] at g;by_cases A:y=1
 .
  rw[show decide (y=1)=true by simpa using A] at j;go_enter func177,ntmps177;go_wp2_with fail;refine g.o.mono ?_;rintro e O ⟨rfl,f⟩;subst f;go_wp2_with fail;refine j.o.mono ?_;rintro e O ⟨rfl,f⟩;subst f;clear g j;go_wp2;go_ret;exact⟨⟨M,c1,l,rfl,by rw[A,Nat.mul_one];exact N.o⟩,Below.refl _ _⟩
 rw[show decide (y=1)=false by simpa using A] at j;have Q:∀w,(Instr.makeSlice 139 (.int .i64 ((l.length:Int)+(m.length:Int))) (.int .i64 ((l.length:Int)+(m.length:Int)))).run prog w=.ok (.slice (some ⟨w.heap.size,0,none⟩) (l.length+m.length) (l.length+m.length)) (w.alloc (.cells (wordCells .u64 (zeros (l.length+m.length))) 170)):=
  fun w=>Qc8 _ (l.length+m.length) (by omega) (by omega) w
 go_enter func177,ntmps177;go_wp2_with fail;refine g.o.mono ?_;rintro e O ⟨rfl,f⟩;subst f;go_wp2_with fail;refine j.o.mono ?_;rintro e w ⟨rfl,f⟩;subst f;clear g j;go_wp2;clear Q;go_loopw [30] (fun i wr=>∃(k:Nat) (rs:Vy),k<=l.length/\i=.int .i64 k/\Blk .u64 170 wr w.heap.size rs/\rs.length=l.length+m.length/\Small 18446744073709551616 rs/\val 18446744073709551616 rs=val 18446744073709551616 (l.take k)*y/\(∀p,k+m.length<=p->rs.getD p 0=0)/\Bl w wr) (fun i _=>l.length - (intOf i).toNat)
 case atStart=>exact⟨0,zeros (l.length+m.length),by omega,rfl,Blk.new _ _ _ _,Qaf _,Qal _ _ (by omega),by rw[Qd9];simp[val],fun p _=>Qb0 _ _,bR.alloc lZ _⟩
 case round=>
  obtain⟨k,rs,hk,rfl,hB,I,J,Y,Z,hb⟩:=hrel;obtain⟨HB,s,K,HV,HZ,n⟩:=Ie hB I J Y Z hb;clear hB I J Y Z hb;by_cases R:k<l.length
  .
   obtain⟨b,ad,rfl,ae,S⟩:=(N.o.row.below n.o).cell k R;obtain⟨d,P⟩:=nm (l.getD k 0);rw[P] at S;have T:d<18446744073709551616:=by rw[<-P];exact N.o.num.small.getD (by omega) k
   have HD:=Hi P;have HC:=Hi (Qru w.heap.size k (l.length+m.length - k) rs F c2 m d wr HB.o K.o (E.o.row.below n.o) E.o.num.small E.o.short T (by have:=s.o;omega) (by omega) (fun b o t=>by
    rcases E.o.row.shape with ⟨h,_⟩|⟨b',o',h,aa⟩
    . rw[h] at t;cases t
    .
     rw[h] at t;obtain⟨rfl,rfl⟩:b'=b/\o'=o:=by simpa using t
     omega))
   clear P;go_wp2_with fail;refine HC.o.mono ?_;rintro e w2 ⟨over,u,rfl,U,c,v⟩;have g1:=c.blk.free (k+m.length);have g2:=c.blk.cell (k+m.length) (by rw[c.len,s.o];omega);have B:u.getD (k+m.length) 0=0:=by rw[c.o _ (.inr lZ)];exact HZ.o _ lZ
   rw[B] at g2;obtain⟨q,V,W⟩:=Ib c v B;clear c v B HC;go_wp2;go_roundw
   case rel=>
    have L:u.length=l.length+m.length:=by rw[q.o.len];exact s.o
    refine⟨k+1,u.set (k+m.length) over,by omega,by go_num,q.o.blk.set _ _,by rw[List.length_set];exact L,q.o.small.set _ U,?_,?_,(n.o.trans (q.o.only.below lZ n.o.size)).setCell lZ _⟩
    .
     have h3:=Qbf 18446744073709551616 u (k+m.length) over (by omega);rw[W.o,Nat.mul_zero,Nat.add_zero] at h3;rw[h3,V.o,HV.o,Qac,HD.o,E.o.num.eq,Nat.add_mul,Nat.mul_assoc]
    .
     intro p hp;rw[getD_set_ne _ _ _ _ (by omega),q.o.o p (.inr (by omega))];exact HZ.o p (by omega)
   case measure=>simp[intOf];omega
  .
   have e1:k=l.length:=by omega
   go_wp2_with fail;refine(Qda w.heap.size (l.length+m.length) (l.length+m.length) (x*y) rs _ HB.o s.o K.o lZ (by omega) (by rw[HV.o,e1,List.take_length,N.o.num.eq])).mono ?_;rintro e O ⟨⟨r,rfl,hu⟩,rfl⟩;go_wp2;go_ret;exact⟨⟨_,_,r,rfl,hu⟩,n.o⟩
theorem Qay{a b u n1 q r Y:Nat}(c:Y=4294967296*a+b)(d:q*a+r=u):q*b≤4294967296*r+n1↔q*Y≤4294967296*u+n1:=by
 have e:q*Y=4294967296*(q*a)+q*b:=by rw[c,Nat.mul_add,Nat.mul_left_comm]
 generalize q*a=A at*;generalize q*b=T at*;omega
theorem Qd3{a b u n1 Y:Nat}(e:Y=4294967296*a+b)(f:n1<4294967296)(g:0<a):(4294967296*u+n1) / Y≤u / a:=by
 have c:(4294967296*u+n1) / Y≤(4294967296*u+n1) / (4294967296*a):=Nat.div_le_div_left (by omega) (by omega);rw[←Nat.div_div_eq_div_mul] at c;have d:(4294967296*u+n1) / 4294967296=u:=by omega
 rw[d] at c;exact c
theorem Qae{u n1 Y:Nat}(a:u<Y)(b:n1<4294967296):(4294967296*u+n1) / Y<4294967296:=by
 rw[Nat.div_lt_iff_lt_mul (by omega)];omega
theorem Qaz{u n1 q Y:Nat}(a:0<Y)(b:q*Y≤4294967296*u+n1)(c:(4294967296*u+n1) / Y≤q):(4294967296*u+n1) / Y=q:=
 Nat.le_antisymm c ((Nat.le_div_iff_mul_le a).2 b)
theorem Qd4{u n1 q Y:Nat}(a:0<Y)(b:¬q*Y≤4294967296*u+n1):(4294967296*u+n1) / Y<q:=by
 rw[Nat.div_lt_iff_lt_mul a];omega
theorem Qbh{a b u q r Y:Nat}(e:Y=4294967296*a+b)(f:b<4294967296)(g:u<Y)(h:q*a+r=u)(i:4294967296≤r)(j:0<a):q<4294967296∧q*b≤4294967295*4294967295:=by
 have c:q*a<4294967296*a:=by omega
 have d:q<4294967296:=Nat.lt_of_mul_lt_mul_right c;exact⟨d,Nat.mul_le_mul (by omega) (by omega)⟩
theorem Qbw{s:Nat}(hs:s≤64):2 ^ s*2 ^ (64 - s)=18446744073709551616:=by
 rw[←Nat.pow_add,show s+(64 - s)=64 by omega]
theorem low64{lo s:Nat}(hs:s≤64):lo*2 ^ s=18446744073709551616*(lo / 2 ^ (64 - s))+lo*2 ^ s % 18446744073709551616:=by
 have a:=Nat.div_add_mod (lo*2 ^ s) 18446744073709551616;have b:lo*2 ^ s / 18446744073709551616=lo / 2 ^ (64 - s):=by
  rw[←Qbw hs,Nat.mul_comm lo,Nat.mul_div_mul_left _ _ (Nat.two_pow_pos s)]
 rw[b] at a;exact a.symm
theorem Qfn{lo s:Nat}(hs:s≤64)(hl:lo<18446744073709551616):lo / 2 ^ (64 - s)<2 ^ s:=by
 rw[Nat.div_lt_iff_lt_mul (Nat.two_pow_pos _),Qbw hs];exact hl
end Go.Proofs.YtppkmifkpjkgpaaGreatDoor
