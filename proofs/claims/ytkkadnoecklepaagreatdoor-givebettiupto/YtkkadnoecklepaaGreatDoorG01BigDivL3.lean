import Derived.Test.YtkkadnoecklepaaGreatDoorG00BigPlain
import Derived.Laws.CopyOwn
import Derived.Deep.RegionWith
import Derived.LoopN
import Derived.Deep.QuietTactic
import Derived.BigQuiet
namespace Go.Proofs.YtkkadnoecklepaaGreatDoor
open Go.RowKit
open Go.Proofs.Tryz
set_option linter.unusedSimpArgs false
set_option linter.unusedVariables false
set_option maxHeartbeats 8000000
set_option maxRecDepth 1000000
theorem Qhi(a:Vx)(c s:Nat)(l:Vy)(x:Nat)(w:Vz)(h:U32 w a c l x)(E:s<32)(N:0<l.length)(hl:l.length<1099511627776):
 Calls prog 236 #[.slice a l.length c,.int .u64 s] w fun e F=>(∃a c r,e=.returned (.slice a r.length c)/\U32 F a c r (x*2 ^ s))/\Below w.heap.size w F:=by
 have q1:((l.length:Int) == 0)=false:=by rw[beq_eq_false_iff_ne];omega
 have P:(s:Int) / 32=0:=by omega
 have Q:(s:Int) % 32=s:=by omega
 have v:∀w,(Instr.makeSlice 119 (.int .i64 ((l.length:Int)+1)) (.int .i64 ((l.length:Int)+1))).run prog w=.ok (.slice (some ⟨w.heap.size,0,none⟩) (l.length+1) (l.length+1)) (w.alloc (.cells (wordCells .u32 (zeros (l.length+1))) 233)):=
  fun w=>Qa8 _ (l.length+1) (by omega) (by omega) w
 go_enter func236,ntmps236;go_wp2;clear v P Q;go_loopw [8] (fun i wr=>∃(k:Nat) (rs:Vy),k<=l.length/\i=.int .i64 k/\Blk .u32 233 wr w.heap.size rs/\rs.length=l.length+1/\Small 4294967296 rs/\rs.getD k 0<2 ^ s/\(∀j,k<j->rs.getD j 0=0)/\
  val 4294967296 (rs.take (k+1))=val 4294967296 (l.take k)*2 ^ s/\Below w.heap.size w wr) (fun i _=>l.length - (intOf i).toNat)
 case atStart=>exact⟨0,zeros (l.length+1),by omega,rfl,Blk.new _ _ _ _,Qah _,Qaq _ _ (by omega),by rw[Qbx];exact Nat.pow_pos (by omega),fun j _=>Qbx _ j,by rw[Qae,Qbx];simp[val],bR.alloc lZ _⟩
 case round=>
  obtain⟨k,rs,hk,rfl,hB,g,p,f,hz2,G,y⟩:=hrel;have H:O (val 4294967296 (rs.take (k+1))=val 4294967296 (l.take k)*2 ^ s):=G;have m:O (rs.length=l.length+1):=g;have I:O (Blk .u32 233 wr w.heap.size rs):=hB;have q:O (Small 4294967296 rs):=p;clear G p;by_cases A:k<l.length
  .
   obtain⟨b,R,rfl,B,n⟩:=h.row.cell k A;obtain⟨d,u⟩:=nm (l.getD k 0);have C:d<4294967296:=by rw[<-u];exact h.num.small.getD (by omega) k
   rw[u] at n;have J:=ce y B n;have g1:=hB.free k;have S:=hB.cell k (by omega);have g3:=hB.free (k+1);have T:=hB.cell (k+1) (by omega);rw[hz2 (k+1) (by omega)] at T;obtain⟨z,D⟩:=nm (rs.getD k 0);rw[D] at S f;have K:=Qm5 d s z E C f;have L:=Qm6 k d s z rs l (by omega) u D H.o;have U:O (∀j,k<j->rs.getD j 0=0):=hz2;have V:O (bits .or .u32 (z:Int) (IntKind.u64.wrap ((d:Int)*2 ^ (s % 32)) % 4294967296)=((d*2 ^ s % 4294967296+z:Nat):Int)/\
    bits .or .u32 0 (IntKind.u64.wrap ((d:Int)*2 ^ (s % 32)) / 4294967296 % 4294967296)=((d*2 ^ s / 4294967296:Nat):Int)/\
    d*2 ^ s % 4294967296+z<4294967296/\d*2 ^ s / 4294967296<2 ^ s):=K
   have W:O (val 4294967296 (((rs.set k (d*2 ^ s % 4294967296+z)).set (k+1) (d*2 ^ s / 4294967296)).take (k+1+1))=val 4294967296 (l.take (k+1))*2 ^ s):=L;clear u n D hB g f hz2 K L;go_wp2;go_roundw
   case rel=>
    obtain⟨X,Y,Z,l4⟩:=V.o;rw[X,Y];have hp:=Qe3 E;refine⟨k+1,(rs.set k (d*2 ^ s % 4294967296+z)).set (k+1) (d*2 ^ s / 4294967296),by omega,by go_num,(I.o.set k _).set (k+1) _,by rw[List.length_set,List.length_set];exact m.o,(q.o.set k Z).set (k+1) (by omega),?_,fun j hj=>?_,W.o,(y.setCell lZ _).setCell lZ _⟩
    . rw[Qbf _ _ _ (by rw[List.length_set,m.o];omega)];exact l4
    . rw[getD_set_ne _ _ _ _ (by omega),getD_set_ne _ _ _ _ (by omega)];exact U.o j (by omega)
   case measure=>simp[intOf];omega
  .
   have t:val 4294967296 rs=x*2 ^ s:=by
    have e1:k=l.length:=by omega
    have M:=H.o;rw[e1,List.take_length,List.take_of_length_le (by omega),h.num.eq] at M;exact M
   have HQ:O (val 4294967296 rs=x*2 ^ s):=t;clear g hB t f hz2;go_wp2_with fail;refine(Qaz w.heap.size (l.length+1) (l.length+1) (x*2 ^ s) rs _ I.o m.o q.o lZ (by omega) HQ.o).mono ?_;rintro e w1 ⟨⟨a,c,r,rfl,hu⟩,rfl⟩;go_wp2;go_ret;exact⟨⟨a,c,r,rfl,hu⟩,y⟩
theorem Qmw(a:Vx)(c s:Nat)(l:Vy)(x:Nat)(w:Vz)(h:U32 w a c l x)(E:s<32):
 Calls prog 237 #[.slice a l.length c,.int .u64 s] w fun e R=>(∃a c r,e=.returned (.slice a r.length c)/\U32 R a c r (x / 2 ^ s))/\Below w.heap.size w R:=by
 have s1:=h.short;have Y:(s:Int) / 32=0:=by omega
 have Z:(s:Int) % 32=s:=by omega
 by_cases g:l.length=0
 .
  have hx:x=0:=(h.num.len_zero (by omega)).2 g;subst hx;rw[g];clear g;go_enter func237,ntmps237;go_wp2;go_ret;exact⟨⟨none,0,[],rfl,by rw[Nat.zero_div];exact⟨Row.nil _ _,Num.zero _,by simp⟩⟩,Below.refl _ _⟩
 have I:∀w,(Instr.makeSlice 119 (.int .i64 (l.length:Int)) (.int .i64 (l.length:Int))).run prog w=.ok (.slice (some ⟨w.heap.size,0,none⟩) l.length l.length) (w.alloc (.cells (wordCells .u32 (zeros l.length)) 233)):=
  fun w=>Qa8 _ l.length rfl (by omega) w
 go_enter func237,ntmps237;go_wp2;clear I Y Z;go_loopw [8] (fun i wr=>∃(k:Nat) (rs:Vy),k<=l.length/\i=.int .i64 k/\Blk .u32 233 wr w.heap.size rs/\rs.length=l.length/\Small 4294967296 rs/\
  val 4294967296 (rs.take k)*2 ^ s+l.getD 0 0 % 2 ^ s=val 4294967296 (l.take k)+4294967296 ^ k*(l.getD k 0 % 2 ^ s)/\Below w.heap.size w wr) (fun i _=>l.length - (intOf i).toNat)
 case atStart=>exact⟨0,zeros l.length,by omega,rfl,Blk.new _ _ _ _,Qah _,Qaq _ _ (by omega),by simp[val],bR.alloc lZ _⟩
 case round=>
  obtain⟨k,rs,hk,rfl,hB,j,u,y,A⟩:=hrel;have J:O (val 4294967296 (rs.take k)*2 ^ s+l.getD 0 0 % 2 ^ s=val 4294967296 (l.take k)+4294967296 ^ k*(l.getD k 0 % 2 ^ s)):=y;have f:O (rs.length=l.length):=j;have K:O (Blk .u32 233 wr w.heap.size rs):=hB;have m:O (Small 4294967296 rs):=u;clear y u;by_cases L:k<l.length
  .
   obtain⟨b,M,rfl,N,n⟩:=h.row.cell k L;obtain⟨d,F⟩:=nm (l.getD k 0);have p:d<4294967296:=by rw[<-F];exact h.num.small.getD (by omega) k
   rw[F] at n;have S:=ce A N n;have g1:=hB.free k;have g2:=hB.cell k (by omega);obtain⟨z,T⟩:=nm (rs.getD k 0);rw[T] at g2;have U:O (l.getD k 0=d):=F;clear F n T hB j;by_cases B:k+1<l.length
   .
    obtain⟨b',C,G,P,q⟩:=h.row.cell (k+1) B;obtain⟨rfl,rfl⟩:b=b'/\M=C:=by simpa using G
    obtain⟨e,H⟩:=nm (l.getD (k+1) 0);have aa:e<4294967296:=by rw[<-H];exact h.num.small.getD (by omega) _
    rw[H] at q;have V:=ce A P q;have H2:O (l.getD (k+1) 0=e):=H;obtain⟨v,y⟩:=nm (4294967296*e+d);have ab:bits .or .u64 (d:Int) ((e:Int)*4294967296)=(v:Int):=by
     rw[or64' ((e:Int)*4294967296) (d:Int) e d 32 (by omega) rfl p (by omega)];omega
    have ad:v<18446744073709551616:=by omega
    have H3:O (4294967296*e+d=v):=y;clear H q G y;have t:=Qhl k d e s (l.getD 0 0 % 2 ^ s) rs l E p (by have:=f.o;omega) U.o H2.o J.o;rw[H3.o] at t;have Q:O (val 4294967296 ((rs.set k (v / 2 ^ s % 4294967296)).take (k+1))*2 ^ s+l.getD 0 0 % 2 ^ s=val 4294967296 (l.take (k+1))+4294967296 ^ (k+1)*(l.getD (k+1) 0 % 2 ^ s)):=t;clear t;go_wp2;go_roundw
    case rel=>
     rw[Qhm v s E];exact⟨k+1,rs.set k (v / 2 ^ s % 4294967296),by omega,by go_num,K.o.set k _,by rw[List.length_set];exact f.o,m.o.set k (Nat.mod_lt _ (by omega)),Q.o,A.setCell lZ _⟩
    case measure=>simp[intOf];omega
   .
    have t:=Qhl k d 0 s (l.getD 0 0 % 2 ^ s) rs l E p (by have:=f.o;omega) U.o (Qbp l (k+1) (by omega)) J.o;rw[Nat.mul_zero,Nat.zero_add] at t;have Q:O (val 4294967296 ((rs.set k (d / 2 ^ s % 4294967296)).take (k+1))*2 ^ s+l.getD 0 0 % 2 ^ s=val 4294967296 (l.take (k+1))+4294967296 ^ (k+1)*(l.getD (k+1) 0 % 2 ^ s)):=t;clear t;go_wp2;go_roundw
    case rel=>
     rw[Qhm d s E];exact⟨k+1,rs.set k (d / 2 ^ s % 4294967296),by omega,by go_num,K.o.set k _,by rw[List.length_set];exact f.o,m.o.set k (Nat.mod_lt _ (by omega)),Q.o,A.setCell lZ _⟩
    case measure=>simp[intOf];omega
  .
   have D:val 4294967296 rs=x / 2 ^ s:=by
    have G:k=l.length:=by omega
    have W:=J.o;have X:0<2 ^ s:=Nat.pow_pos (by omega);rw[G,List.take_length,List.take_of_length_le (by omega),Qbp l _ lZ,h.num.eq,Nat.zero_mod,Nat.mul_zero,Nat.add_zero] at W;rw[<-W,Nat.mul_comm,Nat.mul_add_div X,Nat.div_eq_of_lt (Nat.mod_lt _ X),Nat.add_zero]
   have HQ:O (val 4294967296 rs=x / 2 ^ s):=D;clear j hB D;go_wp2_with fail;refine(Qaz w.heap.size l.length l.length (x / 2 ^ s) rs _ K.o f.o m.o lZ (by omega) HQ.o).mono ?_;rintro e w1 ⟨⟨a,c,r,rfl,hu⟩,rfl⟩;go_wp2;go_ret;exact⟨⟨a,c,r,rfl,hu⟩,A⟩
theorem Qi5(B P h b e a f g W V:Nat)(l:0<P)(hB:0<B)(hW:W=h*(B*P)+b*P+e)(hV:V=a*(B*P)+f*P+g)(i:e<P)(c:b<B)(d:0<a):W / V≤h / a:=by
 rw[Nat.le_div_iff_mul_le d];apply Classical.byContradiction;intro m;have n:W / V*V≤W:=Nat.div_mul_le_self W V;have j:(h+1)*(B*P)≤W / V*a*(B*P):=Nat.mul_le_mul_right _ (by omega);have o:W / V*a*(B*P)≤W / V*V:=by
  rw[Nat.mul_assoc];apply Nat.mul_le_mul_left;omega
 have k:(b+1)*P≤B*P:=Nat.mul_le_mul_right _ c;rw[Nat.add_mul,Nat.one_mul] at j k;omega
theorem Qfu(B P h b d e a f W V g r:Nat)(m:0<P)(hW:W=h*(B*P)+b*P+d)(hV:V=e*(B*P)+a*P+f)(i:d<P)(c:0<V)
 (j:g*e+r=h) (k:r*B+b<g*a):W / V<g:=by
 rw[Nat.div_lt_iff_lt_mul c,hV,Nat.mul_add,Nat.mul_add,hW,←j,Nat.add_mul,Nat.mul_assoc];have l:(r*B+b+1)*P≤g*a*P:=Nat.mul_le_mul_right _ k;rw[Nat.add_mul,Nat.add_mul,Nat.one_mul,Nat.mul_assoc] at l;rw[←Nat.mul_assoc g a P];omega
theorem Qp5(B P h f k b d j W V g r:Nat)(l:0<P)(hW:W=h*(B*P)+f*P+k)(hV:V=b*(B*P)+d*P+j)(m:j<P)(e:0<b)
 (n:g*b+r=h) (o:g<B) (u:g*d≤r*B+f):g≤W / V+1:=by
 apply Classical.byContradiction;intro v;have i:0<V:=by
  have:0<b*(B*P):=Nat.mul_pos e (Nat.mul_pos (by omega) l);omega
 obtain⟨c,rfl⟩:∃c,g=c+1:=⟨g - 1,by have:=Nat.zero_le (W / V);omega⟩;have w:W<c*V:=(Nat.div_lt_iff_lt_mul i).1 (by omega);have x:(c+1)*(b*B+d)*P≤W:=by
  have p:(c+1)*(b*B+d)≤h*B+f:=by
   rw[←n,Nat.mul_add,Nat.add_mul _ _ B,←Nat.mul_assoc];omega
  have q:=Nat.mul_le_mul_right P p;rw[Nat.add_mul _ _ P,Nat.mul_assoc h B P] at q;omega
 have s:V≤(b*B+d+1)*P:=by
  rw[Nat.add_mul,Nat.add_mul,Nat.one_mul,Nat.mul_assoc];omega
 have y:c*V≤c*(b*B+d+1)*P:=by
  rw[Nat.mul_assoc];exact Nat.mul_le_mul_left _ s
 have t:(c+1)*(b*B+d)<c*(b*B+d+1):=by
  apply Nat.lt_of_mul_lt_mul_right (a:=P);omega
 rw[Nat.add_mul,Nat.one_mul,Nat.mul_add c (b*B+d) 1,Nat.mul_one] at t;have z:1*B≤b*B:=Nat.mul_le_mul_right _ e;omega
theorem Qp6(B c d b g r:Nat)(e:c≤b)(f:d<B)(h:g*b+r=c*B+d)(i:B≤r):g<B:=by
 apply Nat.lt_of_mul_lt_mul_right (a:=b);have:c*B≤b*B:=Nat.mul_le_mul_right _ e;rw[Nat.mul_comm B b];omega
theorem Qi6(B g a r b:Nat)(d:g<B)(e:a<B)(c:B≤r):g*a≤r*B+b:=by
 have f:g*a≤B*B:=Nat.mul_le_mul (by omega) (by omega);have h:B*B≤r*B:=Nat.mul_le_mul_right _ c;omega
theorem Qi7(B:Nat)(us:List Nat)(j n:Nat)(h:j+n+3≤us.length)(a:val B (us.drop (j+n+3))=0):
 val B (us.drop j)=(us.getD (j+n+2) 0*B+us.getD (j+n+1) 0)*(B*B ^ n)+us.getD (j+n) 0*B ^ n+val B ((us.drop j).take n):=by
 rw[Qaj B (us.drop j) n (by rw[List.length_drop];omega),List.drop_drop,Qap B us (j+n) (by omega),Qap B us (j+n+1) (by omega),Qap B us (j+n+2) (by omega),a];simp only[Nat.mul_zero,Nat.add_zero];have b:B ^ n*(us.getD (j+n) 0+B*(us.getD (j+n+1) 0+B*us.getD (j+n+2) 0))=(us.getD (j+n+2) 0*B+us.getD (j+n+1) 0)*(B*B ^ n)+us.getD (j+n) 0*B ^ n:=by
  generalize us.getD (j+n) 0=x;generalize us.getD (j+n+1) 0=y;generalize us.getD (j+n+2) 0=z;generalize B ^ n=P;rw[Nat.mul_add,Nat.mul_comm P x,Nat.mul_left_comm P B,Nat.mul_left_comm (z*B+y) B P,Nat.mul_comm P,Nat.add_comm,Nat.add_comm y,Nat.mul_comm B z]
 omega
theorem Qi8(B:Nat)(v:List Nat)(n:Nat)(h:v.length=n+2):
 val B v=v.getD (n+1) 0*(B*B ^ n)+v.getD n 0*B ^ n+val B (v.take n):=by
 rw[Qaj B v n (by omega),Qap B v n (by omega),Qap B v (n+1) (by omega),List.drop_of_length_le (by omega)];simp only[val,Nat.mul_zero,Nat.add_zero];have a:B ^ n*(v.getD n 0+B*v.getD (n+1) 0)=v.getD (n+1) 0*(B*B ^ n)+v.getD n 0*B ^ n:=by
  generalize v.getD n 0=x;generalize v.getD (n+1) 0=y;generalize B ^ n=P;rw[Nat.mul_add,Nat.mul_comm P x,Nat.mul_left_comm P B y,Nat.mul_left_comm y B P,Nat.mul_comm P y,Nat.add_comm]
 omega
theorem Qfv(B:Nat)(hB:0<B)(us:List Nat)(p:Nat)(h:val B us<B ^ p)(a:p≤us.length):val B (us.drop p)=0:=by
 rw[Qaj B us p a] at h;apply Classical.byContradiction;intro b;have:=Nat.mul_le_mul_left (B ^ p) (show 1≤val B (us.drop p) by omega);omega
theorem Qp7(B j i q a c d g b f k R:Nat)(us v:List Nat)(u:q≤us.length)(l:j+i<q)(m:us.getD (j+i) 0=a)(n:v.getD i 0=b)(o:f+(c+g*b) % B+d=a+B*k)
 (h:val B (us.take q)+B ^ j*(g*val B (v.take i))=R+B ^ (j+i)*(c+d)):
 val B ((us.set (j+i) f).take q)+B ^ j*(g*val B (v.take (i+1)))=R+B ^ (j+(i+1))*((c+g*b) / B+k):=by
 rw[Qhv];have p:=Qbe B (us.take q) (j+i) f (by rw[List.length_take];omega);rw[Qfb _ _ _ l,m] at p;have e:=Nat.mod_add_div (c+g*b) B;rw[Qae,n,Nat.mul_add g,Nat.mul_add (B ^ j),show j+(i+1)=j+i+1 from by omega,Nat.pow_succ];have r:B ^ j*(g*(B ^ i*b))=B ^ (j+i)*(g*b):=by
  rw[Nat.pow_add,Nat.mul_left_comm g,Nat.mul_assoc]
 have s:B ^ (j+i)*(f+(c+g*b) % B+d)=B ^ (j+i)*(a+B*k):=by rw[o]
 have t:B ^ (j+i)*((c+g*b) % B+B*((c+g*b) / B))=B ^ (j+i)*(c+g*b):=by rw[e]
 rw[r,Nat.mul_add (B ^ (j+i)*B),Nat.mul_assoc,Nat.mul_assoc];simp only[Nat.mul_add] at s t h ⊢;omega
theorem Qp8(B j n a c d g L m V U:Nat)(v:L<B ^ (j+n))(w:U=m+B ^ (j+n)*a)(hV:0<V)(f:V≤B ^ n)
 (h:L+B ^ j*(g*V)=m+B ^ (j+n)*(c+d)) (o:U / (B ^ j*V)≤g) (p:g≤U / (B ^ j*V)+1) (hB:0<B):
 (g=U / (B ^ j*V)∧a=c+d∧L=U % (B ^ j*V))∨(g=U / (B ^ j*V)+1∧a+1=c+d∧L+B ^ j*V=U % (B ^ j*V)+B ^ (j+n)):=by
 have s:0<B ^ j*V:=Nat.mul_pos (Nat.pow_pos hB) hV;have x:=Nat.div_add_mod U (B ^ j*V);have y:=Nat.mod_lt U s;have t:B ^ j*V≤B ^ (j+n):=by rw[Nat.pow_add];exact Nat.mul_le_mul_left _ f
 have u:B ^ j*(g*V)=B ^ j*V*g:=by rw[Nat.mul_comm g V,Nat.mul_assoc]
 rw[u] at h;generalize U / (B ^ j*V)=q at*;generalize U % (B ^ j*V)=r at*;generalize B ^ j*V=D at*;generalize B ^ (j+n)=T at*;have z:0<T:=by omega
 rcases(show g=q∨g=q+1 by omega) with rfl|rfl
 ·
  left;have i:L+T*a=r+T*(c+d):=by omega
  have e:a=c+d:=by
   rcases Nat.lt_trichotomy a (c+d) with k|b|l
   ·
    have:=Nat.mul_le_mul_left T (show a+1≤c+d by omega);rw[Nat.mul_add] at this;omega
   · exact b
   ·
    have:=Nat.mul_le_mul_left T (show c+d+1≤a by omega);rw[Nat.mul_add] at this;omega
  refine⟨rfl,e,?_⟩;rw[e] at i;omega
 ·
  right;rw[Nat.mul_add,Nat.mul_one] at h;have i:L+D+T*a=r+T*(c+d):=by omega
  have e:a+1=c+d:=by
   rcases Nat.lt_trichotomy (a+1) (c+d) with k|b|l
   ·
    have:=Nat.mul_le_mul_left T (show a+2≤c+d by omega);rw[Nat.mul_add] at this;omega
   · exact b
   · have:=Nat.mul_le_mul_left T (show c+d≤a by omega)
     omega
  refine⟨rfl,e,?_⟩;rw[←e,Nat.mul_add] at i;omega
theorem Qp9(a lo d:Nat)(f:a<4294967296)(e:lo<4294967296)(g:d≤1):∃b c:Nat,b<4294967296∧c≤1∧b+lo+d=a+4294967296*c∧
 ((((a:Int) - lo) % 18446744073709551616 - d) % 18446744073709551616) % 4294967296=(b:Int)∧((((a:Int) - lo) % 18446744073709551616 - d) % 18446744073709551616) / 9223372036854775808=(c:Int):=by
 by_cases h:a<lo+d
 · exact⟨a+4294967296 - lo - d,1,by omega,by omega,by omega,by omega,by omega⟩
 · exact⟨a - lo - d,0,by omega,by omega,by omega,by omega,by omega⟩
theorem Qi9(B:Nat)(us:List Nat)(p a:Nat)(b:p<us.length)(c:us.getD p 0=a)(d:val B (us.drop (p+1))=0):val B us=val B (us.take p)+B ^ p*a:=by
 rw[Qaj B us p (by omega),Qap B us p b,d,c];simp
theorem Qqa{B:Nat}(hB:0<B){us:List Nat}(c:Small B us)(j:Nat)(a:j≤us.length):val B us / B ^ j=val B (us.drop j):=by
 have b:=Qab hB (c.take j);rw[List.length_take,Nat.min_eq_left a] at b;rw[Qaj B us j a,Nat.add_mul_div_left _ _ (Nat.pow_pos hB),Nat.div_eq_of_lt b,Nat.zero_add]
structure DivInv (X V n M k:Nat) (us qs:List Nat):Prop where
 ulen:us.length=M+n+3
 qlen:qs.length=M+1
 usmall:Small 4294967296 us
 qsmall:Small 4294967296 qs
 eq:val 4294967296 us+4294967296 ^ k*V*val 4294967296 (qs.drop k)=X
 lt:val 4294967296 us<4294967296 ^ k*V
theorem DivInv.zero{X V n M j:Nat}{us a:List Nat}(h:DivInv X V n M (j+1) us a)(c:j≤M)(hV:V<4294967296 ^ (n+2)):val 4294967296 (us.drop (j+n+3))=0:=by
 apply Qfv _ (by omega)
 ·
  have d:=h.lt;have b:4294967296 ^ (j+1)*V≤4294967296 ^ (j+1)*4294967296 ^ (n+2):=Nat.mul_le_mul_left _ (by omega);rw[←Nat.pow_add,show j+1+(n+2)=j+n+3 from by omega] at b;omega
 · rw[h.ulen];omega
theorem DivInv.q_lt{X V n M j:Nat}{us b:List Nat}(h:DivInv X V n M (j+1) us b)(hV:0<V):val 4294967296 us / (4294967296 ^ j*V)<4294967296:=by
 rw[Nat.div_lt_iff_lt_mul (Nat.mul_pos (Nat.pow_pos (by omega)) hV)];have a:=h.lt;rw[Nat.pow_succ,Nat.mul_comm (4294967296 ^ j) 4294967296,Nat.mul_assoc] at a;exact a
theorem DivInv.guess{X V n M j:Nat}{us H v:List Nat}(h:DivInv X V n M (j+1) us H)(I:j≤M)(f:Num 4294967296 v V)(i:v.length=n+2)
 {m s k b c e Q:Nat} (J:us.getD (j+(n+2)) 0=m) (E:us.getD (j+(n+1)) 0=s) (F:us.getD (j+n) 0=k) (f1:v.getD (n+1) 0=b) (f0:v.getD n 0=c) (K:1≤b)
 (l:m*4294967296+s=e) (L:val 4294967296 us / (4294967296 ^ j*V)=Q):
 Q≤e / b∧(∀g r,g*b+r=e→r*4294967296+k<g*c→Q<g)∧(∀g r,g*b+r=e→g<4294967296→g*c≤r*4294967296+k→g≤Q+1)∧(∀g r,g*b+r=e→4294967296≤r→g<4294967296):=by
 have o:=Qab (B:=4294967296) (by omega) f.small;rw[f.eq,i] at o;have N:=h.zero I o;have u:0<V:=by
  have:=f.trim.pow_le (B:=4294967296) (by omega);rw[f.eq] at this;have O:0<4294967296 ^ (v.length - 1):=Nat.pow_pos (by omega);omega
 have hW:=Qi7 4294967296 us j n (by rw[h.ulen];omega) N;have d:=Qi8 4294967296 v n i;rw[show j+n+2=j+(n+2) from by omega,show j+n+1=j+(n+1) from by omega,J,E,F,l] at hW;rw[f1,f0,f.eq] at d;have w:0<4294967296 ^ n:=Nat.pow_pos (by omega);have p:val 4294967296 ((us.drop j).take n)<4294967296 ^ n:=by
  have:=Qab (B:=4294967296) (by omega) ((h.usmall.drop j).take n);rw[List.length_take,List.length_drop,h.ulen,Nat.min_eq_left (by omega)] at this;exact this
 have x:val 4294967296 (v.take n)<4294967296 ^ n:=by
  have:=Qab (B:=4294967296) (by omega) (f.small.take n);rw[List.length_take,i,Nat.min_eq_left (by omega)] at this;exact this
 have y:k<4294967296:=by rw[←F];exact h.usmall.getD (by omega) _
 have z:s<4294967296:=by rw[←E];exact h.usmall.getD (by omega) _
 have G:c<4294967296:=by rw[←f0];exact f.small.getD (by omega) _
 have A:Q=val 4294967296 (us.drop j) / V:=by
  rw[←L,←Nat.div_div_eq_div_mul,Qqa (by omega) h.usmall j (by rw[h.ulen];omega)]
 have P:val 4294967296 (us.drop j)<4294967296*V:=by
  have R:=h.lt;have O:=Qaj 4294967296 us j (by rw[h.ulen];omega);rw[Nat.pow_succ,Nat.mul_assoc] at R;apply Nat.lt_of_mul_lt_mul_left (a:=4294967296 ^ j);omega
 have C:m≤b:=by
  apply Classical.byContradiction;intro t;have S:(b+1)*(4294967296*(4294967296*4294967296 ^ n))≤m*(4294967296*(4294967296*4294967296 ^ n)):=Nat.mul_le_mul_right _ (by omega);have U:m*(4294967296*(4294967296*4294967296 ^ n))≤val 4294967296 (us.drop j):=by
   rw[hW,←l,Nat.add_mul,Nat.mul_assoc];omega
  have W:c*4294967296 ^ n+4294967296 ^ n≤4294967296*4294967296 ^ n:=by
   have:=Nat.mul_le_mul_right (4294967296 ^ n) (show c+1≤4294967296 by omega);rw[Nat.add_mul,Nat.one_mul] at this;exact this
  have Y:4294967296*V<4294967296*((b+1)*(4294967296*4294967296 ^ n)):=by
   apply Nat.mul_lt_mul_of_pos_left _ (by omega);rw[Nat.add_mul,Nat.one_mul];omega
  rw[Nat.mul_left_comm] at S;omega
 refine⟨?_,?_,?_,?_⟩
 · rw[A];exact Qi5 _ _ e k _ b c _ _ V w (by omega) hW d p y (by omega)
 · intro g r q t;rw[A];exact Qfu _ _ e k _ b c _ _ V g r w hW d p u q t
 · intro g r q D t;rw[A];exact Qp5 _ _ e k _ b c _ _ V g r w hW d x (by omega) q D t
 · intro g r q T;exact Qp6 _ m s b g r C z (by rw[l];exact q) T
theorem DivInv.next{X V n M j Q:Nat}{us b a:List Nat}(h:DivInv X V n M (j+1) us b)(l:j≤M)(hV:0<V)(c:val 4294967296 us / (4294967296 ^ j*V)=Q)
 (hl:a.length=M+n+3) (f:Small 4294967296 a) (d:val 4294967296 a=val 4294967296 us % (4294967296 ^ j*V)):DivInv X V n M j a (b.set j Q):=by
 have g:0<4294967296 ^ j*V:=Nat.mul_pos (Nat.pow_pos (by omega)) hV;have e:=h.q_lt hV;rw[c] at e;refine⟨hl,by rw[List.length_set];exact h.qlen,f,h.qsmall.set j e,?_,by rw[d];exact Nat.mod_lt _ g⟩;have i:=h.eq;have k:=Nat.div_add_mod (val 4294967296 us) (4294967296 ^ j*V);rw[c] at k;rw[Qcq _ j (by rw[List.length_set,h.qlen];omega),Qbo,Qbf _ _ _ (by rw[h.qlen];omega),List.drop_set_of_lt (by omega),d,Nat.mul_add];rw[Nat.pow_succ,Nat.mul_assoc (4294967296 ^ j) 4294967296 V,Nat.mul_left_comm,Nat.mul_assoc 4294967296 _ _,Nat.mul_left_comm 4294967296] at i;omega
theorem Qfw{X V x y p Q R:Nat}(b:0<p)(c:x*p=X)(hV:y*p=V)(h:R+V*Q=X)(d:R<V):Q=x / y∧R / p=x % y:=by
 have g:0<y:=by
  rcases Nat.eq_zero_or_pos y with a|a
  · rw[a,Nat.zero_mul] at hV;omega
  · exact a
 have e:Q=x / y:=by
  rw[←Nat.mul_div_mul_right x y b,c,hV,←h,Nat.add_mul_div_left _ _ (by omega),Nat.div_eq_of_lt d,Nat.zero_add]
 refine⟨e,?_⟩;have f:R=X % V:=by rw[←h,Nat.add_mul_mod_self_left,Nat.mod_eq_of_lt d]
 rw[f,←c,←hV,Nat.mul_mod_mul_right,Nat.mul_div_cancel _ b]
theorem Qfx(B:Nat):∀(l:List Nat),(∀i,l.getD i 0=0)→val B l=0
 | [],_=>rfl
 |d :: l,h=>by
  have a:d=0:=h 0;have b:=Qfx B l (fun i=>h (i+1));rw[Qbo,a,b];simp
theorem Qfy(B:Nat)(hB:0<B):∀(l:List Nat),val B l=0→∀i,l.getD i 0=0
 | [],_,i=>by simp
 |d :: l,h,i=>by
  rw[Qbo] at h;have b:val B l=0:=by
   rcases Nat.eq_zero_or_pos (val B l) with a|a
   · exact a
   · have:=Nat.mul_pos hB a;omega
  match i with
  |0=>show d=0;omega
  |i+1=>exact Qfy B hB l b i
theorem Qdy(l:List Nat)(k i:Nat):(l.drop k).getD i 0=l.getD (k+i) 0:=by
 rw[List.getD_eq_getElem?_getD,List.getD_eq_getElem?_getD,List.getElem?_drop]
theorem Qqb(B:Nat)(hB:0<B)(us:List Nat)(q:Nat)(h:val B (us.drop (q+1))=0)(p:Nat)(a:q<p):us.getD p 0=0:=by
 have:=Qfy B hB _ h (p - (q+1));rw[Qdy,show q+1+(p - (q+1))=p from by omega] at this;exact this
theorem Qqc(B:Nat)(us:List Nat)(q:Nat)(h:∀p,q<p→us.getD p 0=0):val B (us.drop (q+1))=0:=
 Qfx B _ (fun i=>by rw[Qdy];exact h _ (by omega))
theorem Qja(B:Nat)(us:List Nat)(q:Nat)(a:q<us.length)(b:∀p,q<p→us.getD p 0=0):val B (us.set q 0)=val B (us.take q):=by
 rw[Qi9 B (us.set q 0) q 0 (by rw[List.length_set];exact a) (Qbf _ _ _ a) (Qqc _ _ _ (fun p c=>by rw[getD_set_ne _ _ _ _ (by omega)];exact b p c)),List.take_set_of_le (Nat.le_refl _)];simp
theorem Qqd(L T c r D:Nat)(a:L<T)(b:r<D)(d:D≤T)(e:c≤1)(h:L+T*c=r+T):c=1∧L=r:=by
 have:c=0∨c=1:=by omega
 rcases this with rfl|rfl
 · omega
 · exact⟨rfl,by omega⟩
def DivOk(w:Vz)(x y:Nat)(e:Ending)(w':Vz):Prop:=
 (∃a cap r a' cap' r',e=.returned (.tuple #[.slice a r.length cap,.slice a' r'.length cap'])/\U32 w' a cap r (x / y)/\U32 w' a' cap' r' (x % y))/\Below w.heap.size w w'
theorem Qmc(c d:Vx)(c1 c2:Nat)(l m:Vy)(x y:Nat)(w:Vz)(j:U32 w c c1 l x)(f:U32 w d c2 m y)(b:x<y):
 Calls prog 203 #[.slice c l.length c1,.slice d m.length c2] w (DivOk w x y):=by
 have n:=f.short;have o:((m.length:Int) == 0)=false:=by
  rw[beq_eq_false_iff_ne];have:=(f.num.len_zero (by omega)).2;omega
 have p:=(Qav x y).2 b;go_enter func203,ntmps203;go_wp2_with fail;refine(Qbc c d c1 c2 l m x y w j f).mono ?_;rintro e w1 ⟨rfl,g⟩;go_wp2_with fail;refine(Qe2 c c1 l x w1 (j.below g)).mono ?_;rintro e w2 ⟨⟨a,h,rfl,k⟩,i⟩;go_wp2;go_ret2;refine⟨⟨none,0,[],a,h,l,rfl,?_,?_⟩,g.trans (i.mono g.size)⟩
 . rw[Nat.div_eq_of_lt b];exact⟨Row.nil _ _,Num.zero _,by simp⟩
 . rw[Nat.mod_eq_of_lt b];exact k
theorem Qmd(n p:Vx)(c1 c2:Nat)(l m:Vy)(x y:Nat)(w:Vz)(c:U32 w n c1 l x)(d:U32 w p c2 m y)(M:0<y)(G:y<=x)(hl:l.length<=2):
 Calls prog 203 #[.slice n l.length c1,.slice p m.length c2] w (DivOk w x y):=by
 have N:=d.short;have P:((m.length:Int) == 0)=false:=by
  rw[beq_eq_false_iff_ne];have:=(d.num.len_zero (by omega)).2;omega
 have H:m.length<=l.length:=by
  apply bC;intro D;have:=Qau (B:=4294967296) (by omega) c.num.small d.num.trim (by omega);rw[c.num.eq,d.num.eq] at this;omega
 have D:¬cmp3 x y<0:=by rw[Qav];omega
 have f:x<18446744073709551616:=by
  have I:=Qab (B:=4294967296) (by omega) c.num.small;have Q:=Qb6 (B:=4294967296) (by omega) hl;rw[c.num.eq] at I;omega
 go_enter func203,ntmps203;go_wp2_with fail;refine(Qbc n p c1 c2 l m x y w c d).mono ?_;rintro e w1 ⟨rfl,g⟩;go_wp2_with fail;refine(Qb2 n c1 l x w1 (c.below g) hl).mono ?_;rintro e w2 ⟨rfl,rfl⟩;go_wp2_with fail;refine(Qb2 p c2 m y _ (d.below g) (by omega)).mono ?_;rintro e R ⟨rfl,rfl⟩;have S:((y:Int) == 0)=false:=by rw[beq_eq_false_iff_ne];omega
 obtain⟨q,s⟩:=nm (x / y);obtain⟨r,t⟩:=nm (x % y);have t1:(x:Int) / (y:Int)=(q:Int):=by rw[<-s];simp
 have t2:(x:Int) % (y:Int)=(r:Int):=by rw[<-t];simp
 have t3:(x:Int).tmod (y:Int)=(r:Int):=by rw[Int.tmod_eq_emod_of_nonneg (by omega)];exact t2
 have t4:(x:Int).tdiv (y:Int)=(q:Int):=by rw[Int.tdiv_eq_ediv_of_nonneg (by omega)];exact t1
 have u:q<18446744073709551616:=by rw[<-s];exact Nat.lt_of_le_of_lt (Nat.div_le_self _ _) f
 have J:r<18446744073709551616:=by rw[<-t];exact Nat.lt_of_le_of_lt (Nat.mod_le _ _) f
 have t5:=Qb3 q u;have K:O (x / y=q):=s;have L:O (x % y=r):=t;clear s t D;go_wp2;go_region_with (first|(go_at_call_of 149 (Value.int IntKind.u64 (q:Int));refine(Qbn _ _ ?_ ?_).mono ?_;omega;omega;rintro e T ⟨⟨v,h,z,rfl,i,E⟩,a⟩)|(go_at_call_of 149 (Value.int IntKind.u64 (r:Int));refine(Qbn _ _ ?_ ?_).mono ?_;omega;omega;rintro e U ⟨⟨A,j,C,rfl,k,F⟩,b⟩))
 all_goals
  go_wp2;go_ret2;rw[Int.toNat_natCast] at i k;refine⟨⟨v,h,z,A,j,C,rfl,?_,?_⟩,g.drew.trans ((a.mono g.size).trans (b.mono (Nat.le_trans g.size a.size)))⟩
  . rw[K.o];exact i.below b
  . rw[L.o];exact k
theorem Qme(g B:Vx)(c1 c2:Nat)(l m:Vy)(x y:Nat)(w:Vz)(q:U32 w g c1 l x)(n:U32 w B c2 m y)(C:0<y)(E:y<=x)(hl:2<l.length)(F:m.length=1):
 Calls prog 203 #[.slice g l.length c1,.slice B m.length c2] w (DivOk w x y):=by
 have M:=q.short;have G:¬cmp3 x y<0:=by rw[Qav];omega
 obtain⟨d,rfl⟩:∃d,m= [d]:=by
  match m,F with
  | [d],_=>exact⟨d,rfl⟩
 have s:d=y:=by have:=n.num.eq;simp[val] at this;exact this
 subst s;have h:d<4294967296:=n.num.small d (by simp);obtain⟨b,c,rfl,t,f⟩:=n.row.cell 0 (by simp);have f:w.cell? ⟨b,c,none⟩=some (.int .u32 (d:Int)):=by simpa using f
 show Calls prog 203 #[.slice g l.length c1,.slice (some ⟨b,c,none⟩) 1 c2] w (DivOk w x d)
 go_enter func203,ntmps203;go_wp2_with fail;refine(Qbc g (some ⟨b,c,none⟩) c1 c2 l [d] x d w q n).mono ?_;rintro e w1 ⟨rfl,i⟩;have D:=ce i t f;go_wp2_with fail;refine(Qmu g c1 d l x w1 (q.below i) C h).mono ?_;rintro e w2 ⟨⟨a,u,r,rfl,H⟩,j⟩;have v:x % d<4294967296:=Nat.lt_trans (Nat.mod_lt _ C) h;obtain⟨z,p⟩:=nm (x % d);have I:O (x % d=z):=p;rw[p] at v;rw[p];clear p G;go_wp2_with fail;refine(Qaz w2.heap.size 1 1 z [z] _ (Blk.new .u32 233 w2 [z]) rfl ?_ lZ (by omega) (by simp[val])).mono ?_
 . intro e J;simp at J;omega
 rintro e N ⟨⟨K,cap',L,rfl,A⟩,rfl⟩;go_wp2;go_ret2;have k:Bl w2 (w2.alloc (.cells (wordCells .u32 [z]) 233)):=bR.alloc lZ _;refine⟨⟨a,u,r,K,cap',L,rfl,H.below k,?_⟩,i.trans ((j.mono i.size).trans (k.mono (Nat.le_trans i.size j.size)))⟩;rw[I.o];exact A
def loopsIn:Code->List Code
 | .loop c=>c :: loopsIn c
 | .seq a b=>loopsIn a++loopsIn b
 | .block _ c=>loopsIn c
 | .scope c=>loopsIn c
 | .cond _ a b=>loopsIn a++loopsIn b
 |_=>[]
structure DivMem (w3 wr:Vz) (bv ov gu gq n L:Nat) (v us qs:Vy):Prop where
 below:Below gu w3 wr
 bvlt:bv<gu
 cell:∀i,i<n+2->w3.cell? ⟨bv,ov+i,none⟩=some (.int .u32 ((v.getD i 0:Nat):Int))
 vsmall:Small 4294967296 v
 ub:Blk .u32 233 wr gu us
 qb:Blk .u32 233 wr gq qs
 ne:gu<gq
 ul:us.length=L
 usmall:Small 4294967296 us
theorem DivMem.vcell{c wr:Vz}{a b d e n L:Nat}{v us f:Vy}(h:DivMem c wr a b d e n L v us f)(i:Nat)(g:i<n+2):wr.cell? ⟨a,b+i,none⟩=some (.int .u32 ((v.getD i 0:Nat):Int)):=
 (h.below.cell (p:=⟨a,b+i,none⟩) h.bvlt).trans (h.cell i g)
theorem DivMem.drew{a wr:Vz}{b c d e n L:Nat}{v us f:Vy}(h:DivMem a wr b c d e n L v us f):DivMem a wr.drew b c d e n L v us f:=
 ⟨h.below.drew,h.bvlt,h.cell,h.vsmall,h.ub.drew,h.qb.drew,h.ne,h.ul,h.usmall⟩
theorem DivMem.drewN{a wr:Vz}{b c d e n L:Nat}{v us f:Vy}(h:DivMem a wr b c d e n L v us f)(k:Nat):DivMem a (wr.drewN k) b c d e n L v us f:=
 ⟨⟨h.below.os,h.below.tape,h.below.output,h.below.size,h.below.block⟩,h.bvlt,h.cell,h.vsmall,h.ub,h.qb,h.ne,h.ul,h.usmall⟩
theorem DivMem.setU{b wr:Vz}{c d a e n L:Nat}{v us f:Vy}(h:DivMem b wr c d a e n L v us f)(i x:Nat)(g:x<4294967296):DivMem b (wr.setCell ⟨a,i,none⟩ (.int .u32 (x:Int))) c d a e n L v (us.set i x) f:=
 ⟨h.below.setCell lZ _,h.bvlt,h.cell,h.vsmall,h.ub.set i x,h.qb.other (by have:=h.ne;omega) i _,h.ne,by rw[List.length_set];exact h.ul,h.usmall.set i g⟩
theorem DivMem.setQ{c wr:Vz}{d e b a n L:Nat}{v us f:Vy}(h:DivMem c wr d e b a n L v us f)(i x:Nat):DivMem c (wr.setCell ⟨a,i,none⟩ (.int .u32 (x:Int))) d e b a n L v us (f.set i x):=
 ⟨h.below.setCell (by have:=h.ne;show b<=a;omega) _,h.bvlt,h.cell,h.vsmall,h.ub.other (by have:=h.ne;omega) i _,h.qb.set i x,h.ne,h.ul,h.usmall⟩
theorem Qmn(B j i q c b a R:Nat)(us v:Vy)(g:q<=us.length)(d:i+j<q)(f:us.getD (i+j) 0=a)(k:v.getD i 0=b)
 (h:val B (us.take q)+B ^ (j+i)*c=R+B ^ j*val B (v.take i)):
 val B ((us.set (i+j) ((c+(a+b)) % B)).take q)+B ^ (j+(i+1))*((c+(a+b)) / B)=R+B ^ j*val B (v.take (i+1)):=by
 rw[Nat.add_comm i j] at d f ⊢;have e:=Qhw B (j+i) q c b a _ us g d f h;rw[show c+(a+b)=c+(b+a) from by omega,show j+(i+1)=j+i+1 from by omega,e,Qae,k,Nat.mul_add,<-Nat.mul_assoc (B ^ j),<-Nat.pow_add];omega
def BackExit(Q:Exit->Act->World->Prop)(w3:Vz)(bv ov cv gu gq n j L R a2:Nat)(v qs:Vy)(x10 x15 x16 x17 x20:Value):Prop:=
 ∀(c:Nat) (us:Vy) {s0 s1 s2 s3 s4 s5 s6 s7 s8 s9 s14 s19 s21 s23 s24 s25 s26 s27 s28 s29 s30 s31 s32 s33 s34 s35 s36 s37 s38 s39 s40 s41 s42 s43 s44 s45 s46 s47 s48 s49 s50 s51 s52 s53 s54 s55 s56 s57 s58 s59 s60 s61 s62 s63 s64 s65 s66 s67 s68 s69 s70 s71 s72 s73 s74 s75 s76 s77 s78 s79 s80 s81 s82 s83 s84 s85 s86 s87 s88 s89 s90 s91 s92 s93 s94 s95 s96 s97 s98 s99 s100 s101 s102 s103 s104 s105 s106 s107 s108 s109 s110 s111 s112 s113 s114 s115 s116 s117 s118 s119 s120 s121 s122 s123 s124 s125 s126 s127 s128 s129 s130 s131 s132 s133 s134 s135 s136 s137 s138 s139 s140 s141 s142 s143 s144 s145 s146 s147 s148 s149 s150 s151 s152 s153 s154 s155 s156 s157 s158 s159 s160 s161 s162 s163 s164 s165 s166 s167 s168 s169 s170 s171 s172 s173 s174 s175 s176 s177 s178 s179 s180 s181 s182 s183 s184 s185 s186 s187 s188 s189 s190 s191 s192 s193 s194 s195 s196 s197 s198 s199 s200 s201 s202 s203 s204 s205 s206 s207 s208 s209 s210 s211 s212 s213 s214 s215 s216 s217 s218 s219 s220 s221 s222 s223 s224 s225 s226 s227 s228 s229 s230 s231 s232 s233 s234 s235 s236 s237 s238 s239 s240 s241 s242 s243 s244 s245 s246 s247 s248 s249 s250 s251 s252 s253 s254 s255 s256 s257 s258 s259 s260 s261 s262 s263 s264 s265 s266 s267 s268 s269 s270 s271 s272:Value} (wr:Vz),DivMem w3 wr bv ov gu gq n L v us qs->c<=1->us.getD (j+(n+2)) 0=a2->(∀p,j+(n+2)<p->us.getD p 0=0)->
    val 4294967296 (us.take (j+(n+2)))+4294967296 ^ (j+(n+2))*c=R+4294967296 ^ j*val 4294967296 (v.take (n+2))->
    Q (.exit 6) ⟨#[s0,s1,s2,s3,s4,s5,s6,s7,s8,s9,x10,.slice (some ⟨bv,ov,none⟩) (n+2) cv,.slice (some ⟨gu,0,none⟩) L L,.int .i64 ((n:Int)+2),s14,x15,x16,x17,.int .i64 (j:Int),s19,x20,s21,.int .u64 (c:Int),s23,s24,s25,s26,s27,s28,s29,s30,s31,s32,s33,s34,s35,s36,s37,s38,s39,s40,s41,s42,s43,s44,s45,s46,s47,s48,s49,s50,s51,s52,s53,s54,s55,s56,s57,s58,s59,s60,s61,s62,s63,s64,s65,s66,s67,s68,s69,s70,s71,s72,s73,s74,s75,s76,s77,s78,s79,s80,s81,s82,s83,s84,s85,s86,s87,s88,s89,s90,s91,s92,s93,s94,s95,s96,s97,s98,s99,s100,s101,s102,s103,s104,s105,s106,s107,s108,s109,s110,s111,s112,s113,s114,s115,s116,s117,s118,s119,s120,s121,s122,s123,s124,s125,s126,s127,s128,s129,s130,s131,s132,s133,s134,s135,s136,s137,s138,s139,s140,s141,s142,s143,s144,s145,s146,s147,s148,s149,s150,s151,s152,s153,s154,s155,s156,s157,s158,s159,s160,s161,s162,s163,s164,s165,s166,s167,s168,s169,s170,s171,s172,s173,s174,s175,s176,s177,s178,s179,s180,s181,s182,s183,s184,s185,s186,s187,s188,s189,s190,s191,s192,s193,s194,s195,s196,s197,s198,s199,s200,s201,s202,s203,s204,s205,s206,s207,s208,s209,s210,s211,s212,s213,s214,s215,s216,s217,s218,s219,s220,s221,s222,s223,s224,s225,s226,s227,s228,s229,s230,s231,s232,s233,s234,s235,s236,s237,s238,s239,s240,s241,s242,s243,s244,s245,s246,s247,s248,s249,s250,s251,s252,s253,s254,s255,s256,s257,s258,s259,s260,s261,s262,s263,s264,s265,s266,s267,s268,s269,s270,s271,s272],[]⟩ wr
def BackAt(Q:Exit->Act->World->Prop)(w3:Vz)(bv ov cv gu gq n j L R a2:Nat)(v qs:Vy)(x10 x15 x16 x17 x20:Value)(t:Nat):Prop:=
 ∀(i c:Nat) (us:Vy) {s0 s1 s2 s3 s4 s5 s6 s7 s8 s9 s14 s19 s21 s23 s24 s25 s26 s28 s29 s30 s31 s32 s33 s34 s35 s36 s37 s38 s39 s40 s41 s42 s43 s44 s45 s46 s47 s48 s49 s50 s51 s52 s53 s54 s55 s56 s57 s58 s59 s60 s61 s62 s63 s64 s65 s66 s67 s68 s69 s70 s71 s72 s73 s74 s75 s76 s77 s78 s79 s80 s81 s82 s83 s84 s85 s86 s87 s88 s89 s90 s91 s92 s93 s94 s95 s96 s97 s98 s99 s100 s101 s102 s103 s104 s105 s106 s107 s108 s109 s110 s111 s112 s113 s114 s115 s116 s117 s118 s119 s120 s121 s122 s123 s124 s125 s126 s127 s128 s129 s130 s131 s132 s133 s134 s135 s136 s137 s138 s139 s140 s141 s142 s143 s144 s145 s146 s147 s148 s149 s150 s151 s152 s153 s154 s155 s156 s157 s158 s159 s160 s161 s162 s163 s164 s165 s166 s167 s168 s169 s170 s171 s172 s173 s174 s175 s176 s177 s178 s179 s180 s181 s182 s183 s184 s185 s186 s187 s188 s189 s190 s191 s192 s193 s194 s195 s196 s197 s198 s199 s200 s201 s202 s203 s204 s205 s206 s207 s208 s209 s210 s211 s212 s213 s214 s215 s216 s217 s218 s219 s220 s221 s222 s223 s224 s225 s226 s227 s228 s229 s230 s231 s232 s233 s234 s235 s236 s237 s238 s239 s240 s241 s242 s243 s244 s245 s246 s247 s248 s249 s250 s251 s252 s253 s254 s255 s256 s257 s258 s259 s260 s261 s262 s263 s264 s265 s266 s267 s268 s269 s270 s271 s272:Value} (wr:Vz),i+t=n+2->DivMem w3 wr bv ov gu gq n L v us qs->c<=1->us.getD (j+(n+2)) 0=a2->(∀p,j+(n+2)<p->us.getD p 0=0)->
    val 4294967296 (us.take (j+(n+2)))+4294967296 ^ (j+i)*c=R+4294967296 ^ j*val 4294967296 (v.take i)->
    Code.rounds prog (((Tryz.f203.body.map loopsIn).getD []).getD 3 .skip) Q (t+1) ⟨#[s0,s1,s2,s3,s4,s5,s6,s7,s8,s9,x10,.slice (some ⟨bv,ov,none⟩) (n+2) cv,.slice (some ⟨gu,0,none⟩) L L,.int .i64 ((n:Int)+2),s14,x15,x16,x17,.int .i64 (j:Int),s19,x20,s21,.int .u64 (c:Int),s23,s24,s25,s26,.int .i64 (i:Int),s28,s29,s30,s31,s32,s33,s34,s35,s36,s37,s38,s39,s40,s41,s42,s43,s44,s45,s46,s47,s48,s49,s50,s51,s52,s53,s54,s55,s56,s57,s58,s59,s60,s61,s62,s63,s64,s65,s66,s67,s68,s69,s70,s71,s72,s73,s74,s75,s76,s77,s78,s79,s80,s81,s82,s83,s84,s85,s86,s87,s88,s89,s90,s91,s92,s93,s94,s95,s96,s97,s98,s99,s100,s101,s102,s103,s104,s105,s106,s107,s108,s109,s110,s111,s112,s113,s114,s115,s116,s117,s118,s119,s120,s121,s122,s123,s124,s125,s126,s127,s128,s129,s130,s131,s132,s133,s134,s135,s136,s137,s138,s139,s140,s141,s142,s143,s144,s145,s146,s147,s148,s149,s150,s151,s152,s153,s154,s155,s156,s157,s158,s159,s160,s161,s162,s163,s164,s165,s166,s167,s168,s169,s170,s171,s172,s173,s174,s175,s176,s177,s178,s179,s180,s181,s182,s183,s184,s185,s186,s187,s188,s189,s190,s191,s192,s193,s194,s195,s196,s197,s198,s199,s200,s201,s202,s203,s204,s205,s206,s207,s208,s209,s210,s211,s212,s213,s214,s215,s216,s217,s218,s219,s220,s221,s222,s223,s224,s225,s226,s227,s228,s229,s230,s231,s232,s233,s234,s235,s236,s237,s238,s239,s240,s241,s242,s243,s244,s245,s246,s247,s248,s249,s250,s251,s252,s253,s254,s255,s256,s257,s258,s259,s260,s261,s262,s263,s264,s265,s266,s267,s268,s269,s270,s271,s272],[]⟩ wr
theorem Qmo(Q:Exit->Act->World->Prop)(h:Vz)(k l t m q n j L R r:Nat)(v s:Vy)(b d e f g:Value)(E:L<=1099511627776)(F:j+(n+2)<L)
 (a:BackExit Q h k l t m q n j L R r v s b d e f g):BackAt Q h k l t m q n j L R r v s b d e f g 0:=by
 intro i c us
 iterate 262 intro
 intro wr G u z w x y;obtain rfl:i=n+2:=by omega
 have A:O (val 4294967296 (us.take (j+(n+2)))+4294967296 ^ (j+(n+2))*c=R+4294967296 ^ j*val 4294967296 (v.take (n+2))):=y;have B:O (DivMem h wr k l m q n L v us s):=u;have C:O (∀p,j+(n+2)<p->us.getD p 0=0):=x;have D:O (us.getD (j+(n+2)) 0=r):=w;clear y u x w;rw[rounds_succ]
 conv=>arg 2;whnf
 go_wp2;exact a _ _ _ B.o z D.o C.o A.o
theorem Qmp(Q:Exit->Act->World->Prop)(r:Vz)(s u D w x n j L R y:Nat)(v z:Vy)(f g h k l:Value)(Z:L<=1099511627776)(hj:j+(n+2)<L)(t:Nat)
 (J:BackAt Q r s u D w x n j L R y v z f g h k l t):BackAt Q r s u D w x n j L R y v z f g h k l (t+1):=by
 intro i c us
 iterate 262 intro
 intro wr E d hc F G A;have HV:O (val 4294967296 (us.take (j+(n+2)))+4294967296 ^ (j+i)*c=R+4294967296 ^ j*val 4294967296 (v.take i)):=A;have K:O (DivMem r wr s u w x n L v us z):=d;have M:O (∀p,j+(n+2)<p->us.getD p 0=0):=G;have N:O (us.getD (j+(n+2)) 0=y):=F;have B:=d.ul;obtain⟨e,q⟩:=nm (v.getD i 0);obtain⟨a,b⟩:∃a,us.getD (i+j) 0=a:=⟨_,rfl⟩;have P:e<4294967296:=by rw[<-q];exact d.vsmall.getD (by omega) _
 have S:a<4294967296:=by rw[<-b];exact d.usmall.getD (by omega) _
 have k1:=d.vcell i (by omega);have k2:=d.ub.cell (i+j) (by omega);have k3:=d.ub.free (i+j);rw[q] at k1;rw[b] at k2;have m:=Qmn 4294967296 j i (j+(n+2)) c e a R us v (by omega) (by omega) b q A;have T:O (val 4294967296 ((us.set (i+j) ((c+(a+e)) % 4294967296)).take (j+(n+2)))+4294967296 ^ (j+(i+1))*((c+(a+e)) / 4294967296)=R+4294967296 ^ j*val 4294967296 (v.take (i+1))):=m;have U:O (((c:Int)+(a+e)) % 4294967296=(((c+(a+e)) % 4294967296:Nat):Int)):=by unfold O;omega
 have V:O (((c:Int)+(a+e)) / 4294967296=(((c+(a+e)) / 4294967296:Nat):Int)):=by unfold O;omega
 have W:i<n+2:=by omega
 have H:i+j<L:=by omega
 have I:(i:Int)<(n:Int)+2:=by omega
 have C:(i:Int)+(j:Int)<(L:Int):=by omega
 have X:O (i+(t+1)=n+2):=E;clear A d G F q b m B E;rw[rounds_succ]
 conv=>arg 2;whnf
 go_wp2;go_quiet (fail);go_wp2;rw[U.o,V.o];rw[show (i:Int)+1=((i+1:Nat):Int) from by omega]
 .
  refine J (i+1) ((c+(a+e)) / 4294967296) (us.set (i+j) ((c+(a+e)) % 4294967296)) _ (by have:=X.o;omega) ((K.o.drewN _).setU _ _ (by omega)) (by omega) ?_ ?_ T.o
  . rw[getD_set_ne _ _ _ _ (by omega)];exact N.o
  . intro p Y;rw[getD_set_ne _ _ _ _ (by omega)];exact M.o p Y
theorem Qmq(Q:Exit->Act->World->Prop)(g:Vz)(h i k l m n j L R o:Nat)(v p:Vy)(a b c d e:Value)(q:L<=1099511627776)(r:j+(n+2)<L)
 (f:BackExit Q g h i k l m n j L R o v p a b c d e) (t:Nat):BackAt Q g h i k l m n j L R o v p a b c d e t:=by
 induction t with
 |zero=>exact Qmo Q g h i k l m n j L R o v p a b c d e q r f
 |succ t s=>exact Qmp Q g h i k l m n j L R o v p a b c d e q r t s
def TakeExit(Q:Exit->Act->World->Prop)(w3:Vz)(bv ov cv gu gq n j L R a2 g:Nat)(v qs:Vy)(x10 x15 x16 x17:Value):Prop:=
 ∀(c d:Nat) (us:Vy) {s0 s1 s2 s3 s4 s5 s6 s7 s8 s9 s14 s19 s21 s24 s25 s26 s27 s28 s29 s30 s31 s32 s33 s34 s35 s36 s37 s38 s39 s40 s41 s42 s43 s44 s45 s46 s47 s48 s49 s50 s51 s52 s53 s54 s55 s56 s57 s58 s59 s60 s61 s62 s63 s64 s65 s66 s67 s68 s69 s70 s71 s72 s73 s74 s75 s76 s77 s78 s79 s80 s81 s82 s83 s84 s85 s86 s87 s88 s89 s90 s91 s92 s93 s94 s95 s96 s97 s98 s99 s100 s101 s102 s103 s104 s105 s106 s107 s108 s109 s110 s111 s112 s113 s114 s115 s116 s117 s118 s119 s120 s121 s122 s123 s124 s125 s126 s127 s128 s129 s130 s131 s132 s133 s134 s135 s136 s137 s138 s139 s140 s141 s142 s143 s144 s145 s146 s147 s148 s149 s150 s151 s152 s153 s154 s155 s156 s157 s158 s159 s160 s161 s162 s163 s164 s165 s166 s167 s168 s169 s170 s171 s172 s173 s174 s175 s176 s177 s178 s179 s180 s181 s182 s183 s184 s185 s186 s187 s188 s189 s190 s191 s192 s193 s194 s195 s196 s197 s198 s199 s200 s201 s202 s203 s204 s205 s206 s207 s208 s209 s210 s211 s212 s213 s214 s215 s216 s217 s218 s219 s220 s221 s222 s223 s224 s225 s226 s227 s228 s229 s230 s231 s232 s233 s234 s235 s236 s237 s238 s239 s240 s241 s242 s243 s244 s245 s246 s247 s248 s249 s250 s251 s252 s253 s254 s255 s256 s257 s258 s259 s260 s261 s262 s263 s264 s265 s266 s267 s268 s269 s270 s271 s272:Value} (wr:Vz),DivMem w3 wr bv ov gu gq n L v us qs->c<4294967296->d<=1->us.getD (j+(n+2)) 0=a2->(∀p,j+(n+2)<p->us.getD p 0=0)->
    val 4294967296 (us.take (j+(n+2)))+4294967296 ^ j*(g*val 4294967296 (v.take (n+2)))=R+4294967296 ^ (j+(n+2))*(c+d)->
    Q (.exit 4) ⟨#[s0,s1,s2,s3,s4,s5,s6,s7,s8,s9,x10,.slice (some ⟨bv,ov,none⟩) (n+2) cv,.slice (some ⟨gu,0,none⟩) L L,.int .i64 ((n:Int)+2),s14,x15,x16,x17,.int .i64 (j:Int),s19,.int .u64 (g:Int),s21,.int .u64 (c:Int),.int .u64 (d:Int),s24,s25,s26,s27,s28,s29,s30,s31,s32,s33,s34,s35,s36,s37,s38,s39,s40,s41,s42,s43,s44,s45,s46,s47,s48,s49,s50,s51,s52,s53,s54,s55,s56,s57,s58,s59,s60,s61,s62,s63,s64,s65,s66,s67,s68,s69,s70,s71,s72,s73,s74,s75,s76,s77,s78,s79,s80,s81,s82,s83,s84,s85,s86,s87,s88,s89,s90,s91,s92,s93,s94,s95,s96,s97,s98,s99,s100,s101,s102,s103,s104,s105,s106,s107,s108,s109,s110,s111,s112,s113,s114,s115,s116,s117,s118,s119,s120,s121,s122,s123,s124,s125,s126,s127,s128,s129,s130,s131,s132,s133,s134,s135,s136,s137,s138,s139,s140,s141,s142,s143,s144,s145,s146,s147,s148,s149,s150,s151,s152,s153,s154,s155,s156,s157,s158,s159,s160,s161,s162,s163,s164,s165,s166,s167,s168,s169,s170,s171,s172,s173,s174,s175,s176,s177,s178,s179,s180,s181,s182,s183,s184,s185,s186,s187,s188,s189,s190,s191,s192,s193,s194,s195,s196,s197,s198,s199,s200,s201,s202,s203,s204,s205,s206,s207,s208,s209,s210,s211,s212,s213,s214,s215,s216,s217,s218,s219,s220,s221,s222,s223,s224,s225,s226,s227,s228,s229,s230,s231,s232,s233,s234,s235,s236,s237,s238,s239,s240,s241,s242,s243,s244,s245,s246,s247,s248,s249,s250,s251,s252,s253,s254,s255,s256,s257,s258,s259,s260,s261,s262,s263,s264,s265,s266,s267,s268,s269,s270,s271,s272],[]⟩ wr
def TakeAt(Q:Exit->Act->World->Prop)(w3:Vz)(bv ov cv gu gq n j L R a2 g:Nat)(v qs:Vy)(x10 x15 x16 x17:Value)(t:Nat):Prop:=
 ∀(i c d:Nat) (us:Vy) {s0 s1 s2 s3 s4 s5 s6 s7 s8 s9 s14 s19 s21 s25 s26 s27 s28 s29 s30 s31 s32 s33 s34 s35 s36 s37 s38 s39 s40 s41 s42 s43 s44 s45 s46 s47 s48 s49 s50 s51 s52 s53 s54 s55 s56 s57 s58 s59 s60 s61 s62 s63 s64 s65 s66 s67 s68 s69 s70 s71 s72 s73 s74 s75 s76 s77 s78 s79 s80 s81 s82 s83 s84 s85 s86 s87 s88 s89 s90 s91 s92 s93 s94 s95 s96 s97 s98 s99 s100 s101 s102 s103 s104 s105 s106 s107 s108 s109 s110 s111 s112 s113 s114 s115 s116 s117 s118 s119 s120 s121 s122 s123 s124 s125 s126 s127 s128 s129 s130 s131 s132 s133 s134 s135 s136 s137 s138 s139 s140 s141 s142 s143 s144 s145 s146 s147 s148 s149 s150 s151 s152 s153 s154 s155 s156 s157 s158 s159 s160 s161 s162 s163 s164 s165 s166 s167 s168 s169 s170 s171 s172 s173 s174 s175 s176 s177 s178 s179 s180 s181 s182 s183 s184 s185 s186 s187 s188 s189 s190 s191 s192 s193 s194 s195 s196 s197 s198 s199 s200 s201 s202 s203 s204 s205 s206 s207 s208 s209 s210 s211 s212 s213 s214 s215 s216 s217 s218 s219 s220 s221 s222 s223 s224 s225 s226 s227 s228 s229 s230 s231 s232 s233 s234 s235 s236 s237 s238 s239 s240 s241 s242 s243 s244 s245 s246 s247 s248 s249 s250 s251 s252 s253 s254 s255 s256 s257 s258 s259 s260 s261 s262 s263 s264 s265 s266 s267 s268 s269 s270 s271 s272:Value} (wr:Vz),i+t=n+2->DivMem w3 wr bv ov gu gq n L v us qs->c<4294967296->d<=1->us.getD (j+(n+2)) 0=a2->(∀p,j+(n+2)<p->us.getD p 0=0)->
    val 4294967296 (us.take (j+(n+2)))+4294967296 ^ j*(g*val 4294967296 (v.take i))=R+4294967296 ^ (j+i)*(c+d)->
    Code.rounds prog (((Tryz.f203.body.map loopsIn).getD []).getD 2 .skip) Q (t+1) ⟨#[s0,s1,s2,s3,s4,s5,s6,s7,s8,s9,x10,.slice (some ⟨bv,ov,none⟩) (n+2) cv,.slice (some ⟨gu,0,none⟩) L L,.int .i64 ((n:Int)+2),s14,x15,x16,x17,.int .i64 (j:Int),s19,.int .u64 (g:Int),s21,.int .u64 (c:Int),.int .u64 (d:Int),.int .i64 (i:Int),s25,s26,s27,s28,s29,s30,s31,s32,s33,s34,s35,s36,s37,s38,s39,s40,s41,s42,s43,s44,s45,s46,s47,s48,s49,s50,s51,s52,s53,s54,s55,s56,s57,s58,s59,s60,s61,s62,s63,s64,s65,s66,s67,s68,s69,s70,s71,s72,s73,s74,s75,s76,s77,s78,s79,s80,s81,s82,s83,s84,s85,s86,s87,s88,s89,s90,s91,s92,s93,s94,s95,s96,s97,s98,s99,s100,s101,s102,s103,s104,s105,s106,s107,s108,s109,s110,s111,s112,s113,s114,s115,s116,s117,s118,s119,s120,s121,s122,s123,s124,s125,s126,s127,s128,s129,s130,s131,s132,s133,s134,s135,s136,s137,s138,s139,s140,s141,s142,s143,s144,s145,s146,s147,s148,s149,s150,s151,s152,s153,s154,s155,s156,s157,s158,s159,s160,s161,s162,s163,s164,s165,s166,s167,s168,s169,s170,s171,s172,s173,s174,s175,s176,s177,s178,s179,s180,s181,s182,s183,s184,s185,s186,s187,s188,s189,s190,s191,s192,s193,s194,s195,s196,s197,s198,s199,s200,s201,s202,s203,s204,s205,s206,s207,s208,s209,s210,s211,s212,s213,s214,s215,s216,s217,s218,s219,s220,s221,s222,s223,s224,s225,s226,s227,s228,s229,s230,s231,s232,s233,s234,s235,s236,s237,s238,s239,s240,s241,s242,s243,s244,s245,s246,s247,s248,s249,s250,s251,s252,s253,s254,s255,s256,s257,s258,s259,s260,s261,s262,s263,s264,s265,s266,s267,s268,s269,s270,s271,s272],[]⟩ wr
theorem take_zero(Q:Exit->Act->World->Prop)(k:Vz)(l m p q r n j L R s g:Nat)(v t:Vy)(b e f h:Value)(F:L<=1099511627776)(G:j+(n+2)<L)
 (a:TakeExit Q k l m p q r n j L R s g v t b e f h):TakeAt Q k l m p q r n j L R s g v t b e f h 0:=by
 intro i c d us
 iterate 261 intro
 intro wr H u z A w x y;obtain rfl:i=n+2:=by omega
 obtain⟨B,C,D,E⟩:=Ic y u x w;clear y u x w;rw[rounds_succ]
 conv=>arg 2;whnf
 go_wp2;exact a _ _ _ _ C.o z A E.o D.o B.o
theorem Qml(Q:Exit->Act->World->Prop)(E:Vz)(F G H I J n j L R K g:Nat)(v M:Vy)(l m q r:Value)(hL:L<=1099511627776)(hj:j+(n+2)<L)(hg:g<4294967296)(t:Nat)
 (ih:TakeAt Q E F G H I J n j L R K g v M l m q r t):TakeAt Q E F G H I J n j L R K g v M l m q r (t+1):=by
 intro i c d us
 iterate 261 intro
 intro wr N h hc hd O P T;obtain⟨HM,HZ,HA⟩:=Ib h P O;have z:=h.ul;obtain⟨e,x⟩:=nm (v.getD i 0);obtain⟨a,f⟩:∃a,us.getD (j+i) 0=a:=⟨_,rfl⟩;have A:e<4294967296:=by rw[<-x];exact h.vsmall.getD (by omega) _
 have B:a<4294967296:=by rw[<-f];exact h.usmall.getD (by omega) _
 have k1:=h.vcell i (by omega);have k2:=h.ub.cell (i+j) (by omega);have k3:=h.ub.free (i+j);rw[x] at k1;rw[Nat.add_comm i j,f,Nat.add_comm j i] at k2;have y:=Qdl hg A;obtain⟨p,b⟩:∃p:Nat,g*e=p:=⟨_,rfl⟩;have ab:p<=18446744065119617025:=by rw[<-b];exact y
 obtain⟨S,C⟩:∃S:Nat,c+p=S:=⟨_,rfl⟩;obtain⟨lo,s⟩:∃lo:Nat,S % 4294967296=lo:=⟨_,rfl⟩;obtain⟨u,w⟩:∃u:Nat,S / 4294967296=u:=⟨_,rfl⟩;obtain⟨U,V,b1,b2,W,X,Y⟩:=Qp9 a lo d B (by omega) hd;have k:=Qp7 4294967296 j i (j+(n+2)) a c d g e U V R us v (by omega) (by omega) f x (by rw[b,C,s];exact W) T;rw[b,C,w] at k;obtain⟨HS,B4,B5⟩:=Ib k X Y;have r1:(g:Int)*(e:Int)=(p:Int):=by rw[<-b];simp
 have r2:(c:Int)+(p:Int)=(S:Int):=by omega
 have r3:(S:Int) % 4294967296=(lo:Int):=by omega
 have r4:(S:Int) / 4294967296=(u:Int):=by omega
 have ad:S<18446744073709551616:=by omega
 have Z:lo<4294967296:=by omega
 have D:u<4294967296:=by omega
 have ae:i<n+2:=by omega
 have aa:i+j<L:=by omega
 have HI:=Hi N;clear T h P O x f k z N W X Y y b C s w;rw[rounds_succ]
 conv=>arg 2;whnf
 go_wp2;simp only[Qar,B4.o,B5.o];rw[show (i:Int)+1=((i+1:Nat):Int) from by omega];refine ih (i+1) u V (us.set (j+i) U) _ (by have:=HI.o;omega) ?_ D b2 ?_ ?_ HS.o
 . rw[Nat.add_comm j i];exact HM.o.setU _ _ b1
 . rw[getD_set_ne _ _ _ _ (by omega)];exact HA.o
 . intro p y;rw[getD_set_ne _ _ _ _ (by omega)];exact HZ.o p y
theorem Qmm(Q:Exit->Act->World->Prop)(f:Vz)(h i k l m n j L R o g:Nat)(v p:Vy)(a b c d:Value)(q:L<=1099511627776)(r:j+(n+2)<L)(s:g<4294967296)
 (e:TakeExit Q f h i k l m n j L R o g v p a b c d) (t:Nat):TakeAt Q f h i k l m n j L R o g v p a b c d t:=by
 induction t with
 |zero=>exact take_zero Q f h i k l m n j L R o g v p a b c d q r e
 |succ t u=>exact Qml Q f h i k l m n j L R o g v p a b c d q r s t u
end Go.Proofs.YtkkadnoecklepaaGreatDoor
