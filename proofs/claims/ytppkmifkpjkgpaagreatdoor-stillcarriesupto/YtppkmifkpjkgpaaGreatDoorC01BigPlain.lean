import Derived.Test.YtppkmifkpjkgpaaGreatDoorC00BigTrim
import Derived.Laws.AppendOwnNone
import Derived.Laws.BitsAllLaws
namespace Go.Proofs.YtppkmifkpjkgpaaGreatDoor
open Go.RowKit
open Go.Proofs.Tryz
set_option linter.unusedSimpArgs false
set_option linter.unusedVariables false
set_option maxHeartbeats 8000000
set_option maxRecDepth 1000000
theorem Qhh(a1 a2:Vx)(c1 c2:Nat)(l m:Vy)(x y:Nat)(w:Vz)(M:U32 w a1 c1 l x)(N:U32 w a2 c2 m y)(hl:l.length<1099511627776)(hm:m.length<1099511627776):
 Calls prog 111 #[.slice a1 l.length c1,.slice a2 m.length c2] w fun e w'=>(∃a cap r,e=.returned (.slice a r.length cap)/\U32 w' a cap r (x+y))/\Below w.heap.size w w':=by
 by_cases aa:l.length<m.length
 .
  have u:∀w,(Instr.makeSlice 120 (.int .i64 ((m.length:Int)+1)) (.int .i64 ((m.length:Int)+1))).run prog w=.ok (.slice (some ⟨w.heap.size,0,none⟩) (m.length+1) (m.length+1)) (w.alloc (.cells (wordCells .u32 (zeros (m.length+1))) 201)):=
   fun w=>Qa7 _ (m.length+1) (by omega) (by omega) w
  go_enter func111,ntmps111;go_wp2;clear u;go_loopw [6,7] (fun c i wr=>∃(k v:Nat) (rs:Vy),k<=m.length/\v<=1/\c=.int .u64 v/\i=.int .i64 k/\Blk .u32 201 wr w.heap.size rs/\rs.length=m.length+1/\Small 4294967296 rs/\
   val 4294967296 (rs.take k)+4294967296 ^ k*v=val 4294967296 (m.take k)+val 4294967296 (l.take k)/\Below w.heap.size w wr) (fun _ i _=>m.length - (intOf i).toNat)
  case atStart=>exact⟨0,0,zeros (m.length+1),by omega,by omega,rfl,rfl,Blk.new _ _ _ _,Qaf _,Qak _ _ (by omega),by simp[val],bR.alloc lZ _⟩
  case round=>
   obtain⟨k,c,rs,hk,hc,rfl,rfl,hB,g,h,P,p⟩:=hrel;have A:O (val 4294967296 (rs.take k)+4294967296 ^ k*c=val 4294967296 (m.take k)+val 4294967296 (l.take k)):=P;have f:O (rs.length=m.length+1):=g;have B:O (Blk .u32 201 wr w.heap.size rs):=hB;clear P;by_cases C:k<m.length
   .
    obtain⟨b,U,rfl,D,j⟩:=N.row.cell k C;obtain⟨d,s⟩:=nm (m.getD k 0);have V:d<4294967296:=by rw[<-s];exact N.num.small.getD (by omega) k
    rw[s] at j;have Q:=ce p D j;have R:O (m.getD k 0=d):=s;obtain⟨z,q⟩:=nm (rs.getD k 0);have W:=hB.free k;have E:=hB.cell k (by omega);rw[q] at E;clear s j q hB g;by_cases F:k<l.length
    .
     obtain⟨b',S,rfl,G,n⟩:=M.row.cell k F;obtain⟨e,t⟩:=nm (l.getD k 0);have X:e<4294967296:=by rw[<-t];exact M.num.small.getD (by omega) k
     rw[t] at n;have T:=ce p G n;have Y:O (l.getD k 0=e):=t;clear t n;have H:O (((c:Int)+d+e) % 4294967296=(((c+(d+e)) % 4294967296:Nat):Int)):=by unfold O;omega
     have I:O (((c:Int)+d+e) / 4294967296=(((c+(d+e)) / 4294967296:Nat):Int)):=by unfold O;omega
     go_wp2;go_roundw
     case rel=>
      rw[H.o,I.o];exact⟨k+1,(c+(d+e)) / 4294967296,rs.set k ((c+(d+e)) % 4294967296),by omega,by omega,rfl,by go_num,B.o.set k _,by rw[List.length_set];exact f.o,h.set k (by omega),Qdr k c d e rs m l (by have:=f.o;omega) R.o Y.o A.o,p.setCell lZ _⟩
     case measure=>simp[intOf];omega
    .
     have H:O (((c:Int)+d) % 4294967296=(((c+(d+0)) % 4294967296:Nat):Int)):=by unfold O;omega
     have I:O (((c:Int)+d) / 4294967296=(((c+(d+0)) / 4294967296:Nat):Int)):=by unfold O;omega
     go_wp2;go_roundw
     case rel=>
      rw[H.o,I.o];exact⟨k+1,(c+(d+0)) / 4294967296,rs.set k ((c+(d+0)) % 4294967296),by omega,by omega,rfl,by go_num,B.o.set k _,by rw[List.length_set];exact f.o,h.set k (by omega),Qdr k c d 0 rs m l (by have:=f.o;omega) R.o (Qb0 l k (by omega)) A.o,p.setCell lZ _⟩
     case measure=>simp[intOf];omega
   .
    obtain⟨z,q⟩:=nm (rs.getD m.length 0);have W:=hB.free m.length;have E:=hB.cell m.length (by omega);rw[q] at E;clear q hB g;go_wp2_with fail;have J:(rs.set m.length c).length=m.length+1:=by rw[List.length_set];exact f.o
    have K:Blk .u32 201 (wr.setCell ⟨w.heap.size,m.length,none⟩ (.int .u32 (c:Int))) w.heap.size (rs.set m.length c):=B.o.set m.length c;have L:val 4294967296 (rs.set m.length c)=x+y:=by
     rw[Qfe _ _ _ _ f.o];have Z:k=m.length:=by omega
     have e2:=A.o;rw[Z,List.take_length,Qa9 _ l _ (by omega),N.num.eq,M.num.eq] at e2;omega
    refine(Qa4 w.heap.size (m.length+1) (m.length+1) (x+y) (rs.set m.length c) _ K J (h.set _ (by omega)) lZ (by omega) L).mono ?_;rintro e w1 ⟨⟨a,cap,r,rfl,hu⟩,rfl⟩;go_wp2;go_ret;exact⟨⟨a,cap,r,rfl,hu⟩,p.setCell lZ _⟩
 .
  have u:∀w,(Instr.makeSlice 120 (.int .i64 ((l.length:Int)+1)) (.int .i64 ((l.length:Int)+1))).run prog w=.ok (.slice (some ⟨w.heap.size,0,none⟩) (l.length+1) (l.length+1)) (w.alloc (.cells (wordCells .u32 (zeros (l.length+1))) 201)):=
   fun w=>Qa7 _ (l.length+1) (by omega) (by omega) w
  go_enter func111,ntmps111;go_wp2;clear u;go_loopw [6,7] (fun c i wr=>∃(k v:Nat) (rs:Vy),k<=l.length/\v<=1/\c=.int .u64 v/\i=.int .i64 k/\Blk .u32 201 wr w.heap.size rs/\rs.length=l.length+1/\Small 4294967296 rs/\
   val 4294967296 (rs.take k)+4294967296 ^ k*v=val 4294967296 (l.take k)+val 4294967296 (m.take k)/\Below w.heap.size w wr) (fun _ i _=>l.length - (intOf i).toNat)
  case atStart=>exact⟨0,0,zeros (l.length+1),by omega,by omega,rfl,rfl,Blk.new _ _ _ _,Qaf _,Qak _ _ (by omega),by simp[val],bR.alloc lZ _⟩
  case round=>
   obtain⟨k,c,rs,hk,hc,rfl,rfl,hB,g,h,P,p⟩:=hrel;have A:O (val 4294967296 (rs.take k)+4294967296 ^ k*c=val 4294967296 (l.take k)+val 4294967296 (m.take k)):=P;have f:O (rs.length=l.length+1):=g;have B:O (Blk .u32 201 wr w.heap.size rs):=hB;clear P;by_cases C:k<l.length
   .
    obtain⟨b,U,rfl,D,j⟩:=M.row.cell k C;obtain⟨d,s⟩:=nm (l.getD k 0);have V:d<4294967296:=by rw[<-s];exact M.num.small.getD (by omega) k
    rw[s] at j;have Q:=ce p D j;have R:O (l.getD k 0=d):=s;obtain⟨z,q⟩:=nm (rs.getD k 0);have W:=hB.free k;have E:=hB.cell k (by omega);rw[q] at E;clear s j q hB g;by_cases F:k<m.length
    .
     obtain⟨b',S,rfl,G,n⟩:=N.row.cell k F;obtain⟨e,t⟩:=nm (m.getD k 0);have X:e<4294967296:=by rw[<-t];exact N.num.small.getD (by omega) k
     rw[t] at n;have T:=ce p G n;have Y:O (m.getD k 0=e):=t;clear t n;have H:O (((c:Int)+d+e) % 4294967296=(((c+(d+e)) % 4294967296:Nat):Int)):=by unfold O;omega
     have I:O (((c:Int)+d+e) / 4294967296=(((c+(d+e)) / 4294967296:Nat):Int)):=by unfold O;omega
     go_wp2;go_roundw
     case rel=>
      rw[H.o,I.o];exact⟨k+1,(c+(d+e)) / 4294967296,rs.set k ((c+(d+e)) % 4294967296),by omega,by omega,rfl,by go_num,B.o.set k _,by rw[List.length_set];exact f.o,h.set k (by omega),Qdr k c d e rs l m (by have:=f.o;omega) R.o Y.o A.o,p.setCell lZ _⟩
     case measure=>simp[intOf];omega
    .
     have H:O (((c:Int)+d) % 4294967296=(((c+(d+0)) % 4294967296:Nat):Int)):=by unfold O;omega
     have I:O (((c:Int)+d) / 4294967296=(((c+(d+0)) / 4294967296:Nat):Int)):=by unfold O;omega
     go_wp2;go_roundw
     case rel=>
      rw[H.o,I.o];exact⟨k+1,(c+(d+0)) / 4294967296,rs.set k ((c+(d+0)) % 4294967296),by omega,by omega,rfl,by go_num,B.o.set k _,by rw[List.length_set];exact f.o,h.set k (by omega),Qdr k c d 0 rs l m (by have:=f.o;omega) R.o (Qb0 m k (by omega)) A.o,p.setCell lZ _⟩
     case measure=>simp[intOf];omega
   .
    obtain⟨z,q⟩:=nm (rs.getD l.length 0);have W:=hB.free l.length;have E:=hB.cell l.length (by omega);rw[q] at E;clear q hB g;go_wp2_with fail;have J:(rs.set l.length c).length=l.length+1:=by rw[List.length_set];exact f.o
    have K:Blk .u32 201 (wr.setCell ⟨w.heap.size,l.length,none⟩ (.int .u32 (c:Int))) w.heap.size (rs.set l.length c):=B.o.set l.length c;have L:val 4294967296 (rs.set l.length c)=x+y:=by
     rw[Qfe _ _ _ _ f.o];have Z:k=l.length:=by omega
     have e2:=A.o;rw[Z,List.take_length,Qa9 _ m _ (by omega),M.num.eq,N.num.eq] at e2;omega
    refine(Qa4 w.heap.size (l.length+1) (l.length+1) (x+y) (rs.set l.length c) _ K J (h.set _ (by omega)) lZ (by omega) L).mono ?_;rintro e w1 ⟨⟨a,cap,r,rfl,hu⟩,rfl⟩;go_wp2;go_ret;exact⟨⟨a,cap,r,rfl,hu⟩,p.setCell lZ _⟩
theorem Qhl(V W:Vx)(c1 c2:Nat)(l m:Vy)(x y:Nat)(w:Vz)(A:U32 w V c1 l x)(C:U32 w W c2 m y)(ad:y<=x):
 Calls prog 225 #[.slice V l.length c1,.slice W m.length c2] w fun e w'=>(∃a cap r,e=.returned (.slice a r.length cap)/\U32 w' a cap r (x - y))/\Below w.heap.size w w':=by
 have ae:m.length<=l.length:=by
  apply bC;intro H;have:=Qax (B:=4294967296) (by omega) A.num.small C.num.trim (by omega);rw[A.num.eq,C.num.eq] at this;omega
 have s1:=A.short;have I:∀w,(Instr.makeSlice 120 (.int .i64 (l.length:Int)) (.int .i64 (l.length:Int))).run prog w=.ok (.slice (some ⟨w.heap.size,0,none⟩) l.length l.length) (w.alloc (.cells (wordCells .u32 (zeros l.length)) 201)):=
  fun w=>Qa7 _ l.length rfl (by omega) w
 go_enter func225,ntmps225;go_wp2;clear I;go_loopw [6,7] (fun c i wr=>∃(k f:Nat) (rs:Vy),k<=l.length/\f<=1/\c=.int .u64 f/\i=.int .i64 k/\Blk .u32 201 wr w.heap.size rs/\rs.length=l.length/\Small 4294967296 rs/\
  val 4294967296 (rs.take k)+val 4294967296 (m.take k)=val 4294967296 (l.take k)+4294967296 ^ k*f/\Below w.heap.size w wr) (fun _ i _=>l.length - (intOf i).toNat)
 case atStart=>exact⟨0,0,zeros l.length,by omega,by omega,rfl,rfl,Blk.new _ _ _ _,Qaf _,Qak _ _ (by omega),by simp[val],bR.alloc lZ _⟩
 case round=>
  obtain⟨k,c,rs,hk,H,rfl,rfl,hB,j,n,X,D⟩:=hrel;have J:O (val 4294967296 (rs.take k)+val 4294967296 (m.take k)=val 4294967296 (l.take k)+4294967296 ^ k*c):=X;have g:O (rs.length=l.length):=j;have K:O (Blk .u32 201 wr w.heap.size rs):=hB;clear X;by_cases L:k<l.length
  .
   obtain⟨b,af,rfl,M,s⟩:=A.row.cell k L;obtain⟨d,F⟩:=nm (l.getD k 0);have E:d<4294967296:=by rw[<-F];exact A.num.small.getD (by omega) k
   rw[F] at s;have Y:=ce D M s;have Z:O (l.getD k 0=d):=F;obtain⟨z,hz⟩:=nm (rs.getD k 0);have g1:=hB.free k;have g2:=hB.cell k (by omega);rw[hz] at g2;clear F s hz hB j;by_cases N:k<m.length
   .
    obtain⟨b',aa,rfl,P,t⟩:=C.row.cell k N;obtain⟨e,G⟩:=nm (m.getD k 0);have Q:e<4294967296:=by rw[<-G];exact C.num.small.getD (by omega) k
    rw[G] at t;have ab:=ce D P t;have H2:O (m.getD k 0=e):=G;clear G t;obtain⟨r,f,u,v,h,p,q⟩:=Qh8 d c e E Q H;have R:O (r+c+e=d+4294967296*f):=h;have S:O (((((d:Int) - c) % 18446744073709551616 - e) % 18446744073709551616) % 4294967296=(r:Int)):=p;have T:O (((((d:Int) - c) % 18446744073709551616 - e) % 18446744073709551616) / 9223372036854775808=(f:Int)):=q;clear h p q;go_wp2;go_roundw
    case rel=>
     simp only[Qao,S.o,T.o];exact⟨k+1,f,rs.set k r,by omega,v,rfl,by go_num,K.o.set k _,by rw[List.length_set];exact g.o,n.set k u,Qff _ k c d e r f rs l m (by have:=g.o;omega) Z.o H2.o R.o J.o,D.setCell lZ _⟩
    case measure=>simp[intOf];omega
   .
    obtain⟨r,f,u,v,h,p,q⟩:=Qh8 d c 0 E (by omega) H;have R:O (r+c+0=d+4294967296*f):=h;have S:O ((((d:Int) - c) % 18446744073709551616) % 4294967296=(r:Int)):=by unfold O;omega
    have T:O ((((d:Int) - c) % 18446744073709551616) / 9223372036854775808=(f:Int)):=by unfold O;omega
    clear h p q;go_wp2;go_roundw
    case rel=>
     simp only[Qao,S.o,T.o];exact⟨k+1,f,rs.set k r,by omega,v,rfl,by go_num,K.o.set k _,by rw[List.length_set];exact g.o,n.set k u,Qff _ k c d 0 r f rs l m (by have:=g.o;omega) Z.o (Qb0 m k (by omega)) R.o J.o,D.setCell lZ _⟩
    case measure=>simp[intOf];omega
  .
   have U:val 4294967296 rs=x - y:=by
    have e1:k=l.length:=by omega
    have e2:=J.o;rw[e1,List.take_length,Qa9 _ m _ (by omega),List.take_of_length_le (by omega),A.num.eq,C.num.eq] at e2;have e3:=Qaa (B:=4294967296) (by omega) n;rw[j] at e3;have e4:c=0:=by
     apply bC;intro ag;have:c=1:=by omega
     subst this;omega
    subst e4;omega
   clear j hB;go_wp2_with fail;refine(Qa4 w.heap.size l.length l.length (x - y) rs _ K.o g.o n lZ (by omega) U).mono ?_;rintro e w1 ⟨⟨a,cap,r,rfl,hu⟩,rfl⟩;go_wp2;go_ret;exact⟨⟨a,cap,r,rfl,hu⟩,D⟩
theorem Qhj(a1 a2:Vx)(c1 c2:Nat)(l m:Vy)(x y:Nat)(w:Vz)(H:U32 w a1 c1 l x)(I:U32 w a2 c2 m y)(M:l.length+m.length<=1099511627776):
 Calls prog 112 #[.slice a1 l.length c1,.slice a2 m.length c2] w fun e w'=>(∃a cap r,e=.returned (.slice a r.length cap)/\U32 w' a cap r (x*y))/\Below w.heap.size w w':=by
 by_cases q:l.length=0
 .
  have hx:x=0:=(H.num.len_zero (by omega)).2 q;have q1:((l.length:Int) == 0)=true:=by simp[q]
  have N:O (x=0):=hx;clear q hx;go_enter func112,ntmps112;go_wp2;go_ret;exact⟨⟨none,0,[],rfl,by rw[N.o,Nat.zero_mul];exact⟨Row.nil _ _,Num.zero _,by simp⟩⟩,Below.refl _ _⟩
 by_cases s:m.length=0
 .
  have hy:y=0:=(I.num.len_zero (by omega)).2 s;have q1:((l.length:Int) == 0)=false:=by rw[beq_eq_false_iff_ne];omega
  have q2:((m.length:Int) == 0)=true:=by simp[s]
  have N:O (y=0):=hy;clear s hy;go_enter func112,ntmps112;go_wp2;go_ret;exact⟨⟨none,0,[],rfl,by rw[N.o,Nat.mul_zero];exact⟨Row.nil _ _,Num.zero _,by simp⟩⟩,Below.refl _ _⟩
 have q1:((l.length:Int) == 0)=false:=by rw[beq_eq_false_iff_ne];omega
 have q2:((m.length:Int) == 0)=false:=by rw[beq_eq_false_iff_ne];omega
 have P:∀w,(Instr.makeSlice 120 (.int .i64 ((l.length:Int)+(m.length:Int))) (.int .i64 ((l.length:Int)+(m.length:Int)))).run prog w=.ok (.slice (some ⟨w.heap.size,0,none⟩) (l.length+m.length) (l.length+m.length)) (w.alloc (.cells (wordCells .u32 (zeros (l.length+m.length))) 201)):=
  fun w=>Qa7 _ (l.length+m.length) (by omega) (by omega) w
 go_enter func112,ntmps112;go_wp2;clear P;go_loopw [6] (fun i wr=>∃(k:Nat) (rs:Vy),k<=l.length/\i=.int .i64 k/\Blk .u32 201 wr w.heap.size rs/\rs.length=l.length+m.length/\Small 4294967296 rs/\
  val 4294967296 (rs.take (k+m.length))=val 4294967296 (l.take k)*y/\Below w.heap.size w wr) (fun i _=>l.length - (intOf i).toNat)
 case atStart=>exact⟨0,zeros (l.length+m.length),by omega,rfl,Blk.new _ _ _ _,Qaf _,Qak _ _ (by omega),by rw[show (zeros (l.length+m.length)).take (0+m.length)=zeros m.length from by unfold zeros;simp,Qd5];simp[val],bR.alloc lZ _⟩
 case round=>
  obtain⟨k,rs,hk,rfl,hB,g,h,C,p⟩:=hrel;have A:O (val 4294967296 (rs.take (k+m.length))=val 4294967296 (l.take k)*y):=C;have f:O (rs.length=l.length+m.length):=g;have B:O (Blk .u32 201 wr w.heap.size rs):=hB;have n:O (Small 4294967296 rs):=h;clear C h;by_cases Q:k<l.length
  .
   obtain⟨b,ae,rfl,R,D⟩:=H.row.cell k Q;obtain⟨d,J⟩:=nm (l.getD k 0);have S:d<4294967296:=by rw[<-J];exact H.num.small.getD (by omega) k
   rw[J] at D;have H1:O (l.getD k 0=d):=J;clear J g hB;go_wp2;have E:O (Below w.heap.size w wr):=p;clear p;go_loopw [7,8] (fun c j wr=>∃(i T:Nat) (rs:Vy),i<=m.length/\T<4294967296/\c=.int .u64 T/\j=.int .i64 i/\Blk .u32 201 wr w.heap.size rs/\rs.length=l.length+m.length/\Small 4294967296 rs/\
    val 4294967296 (rs.take (k+m.length))+4294967296 ^ (k+i)*T=val 4294967296 (l.take k)*y+4294967296 ^ k*(d*val 4294967296 (m.take i))/\Below w.heap.size w wr) (fun _ j _=>m.length - (intOf j).toNat)
   case atStart=>exact⟨0,0,rs,by omega,by omega,rfl,rfl,B.o,f.o,n.o,by rw[A.o];simp[val],E.o⟩
   case round=>
    clear B f n A E;obtain⟨i,c,rs,hi,hc,rfl,rfl,hB,g,h,C,p⟩:=hrel;have A:O (val 4294967296 (rs.take (k+m.length))+4294967296 ^ (k+i)*c=val 4294967296 (l.take k)*y+4294967296 ^ k*(d*val 4294967296 (m.take i))):=C;have f:O (rs.length=l.length+m.length):=g;have B:O (Blk .u32 201 wr w.heap.size rs):=hB;have n:O (Small 4294967296 rs):=h;clear C;by_cases F:i<m.length
    .
     obtain⟨b',aa,rfl,U,u⟩:=I.row.cell i F;obtain⟨e,K⟩:=nm (m.getD i 0);have V:e<4294967296:=by rw[<-K];exact I.num.small.getD (by omega) i
     rw[K] at u;have ab:=ce p R D;have ad:=ce p U u;have H2:O (m.getD i 0=e):=K;obtain⟨z,v⟩:=nm (rs.getD (k+i) 0);have af:z<4294967296:=by rw[<-v];exact h.getD (by omega) _
     have g1:=hB.free (k+i);have W:=hB.cell (k+i) (by omega);rw[v] at W;have HZ:O (rs.getD (k+i) 0=z):=v;clear K u v hB g h;have hp:=Qds S V;obtain⟨t,L⟩:∃t:Nat,t=d*e:=⟨_,rfl⟩;have ag:(d:Int)*(e:Int)=(t:Int):=by rw[L];simp
     have ah:t<=18446744065119617025:=by rw[L];exact hp
     have HT:O (t=d*e):=L;clear L hp;have ev:O (((c:Int)+(t+z)) % 4294967296=(((c+(t+z)) % 4294967296:Nat):Int)):=by unfold O;omega
     have ec:O (((c:Int)+(t+z)) / 4294967296=(((c+(t+z)) / 4294967296:Nat):Int)):=by unfold O;omega
     go_wp2;go_region
     all_goals
      go_wp2;go_roundw
      case rel=>
       rw[ev.o,ec.o];exact⟨i+1,(c+(t+z)) / 4294967296,rs.set (k+i) ((c+(t+z)) % 4294967296),by omega,by omega,rfl,by go_num,(B.o.set (k+i) _).drew,by rw[List.length_set];exact f.o,n.o.set _ (by omega),Qn1 _ k i d e t _ c z _ rs m HT.o H2.o (by have:=f.o;omega) (by omega) HZ.o A.o,(p.setCell lZ _).drew⟩
      case measure=>simp[intOf];omega
    .
     obtain⟨z,v⟩:=nm (rs.getD (k+m.length) 0);have g1:=hB.free (k+m.length);have W:=hB.cell (k+m.length) (by omega);rw[v] at W;clear v hB g h;have hv2:val 4294967296 ((rs.set (k+m.length) c).take (k+1+m.length))=val 4294967296 (l.take (k+1))*y:=by
      have X:i=m.length:=by omega
      have G:=A.o;rw[X,List.take_length,I.num.eq] at G;exact Qn2 _ k d c y m.length rs l H1.o (by have:=f.o;omega) G
     have Y:O (val 4294967296 ((rs.set (k+m.length) c).take (k+1+m.length))=val 4294967296 (l.take (k+1))*y):=hv2;clear hv2;go_wp2;go_roundw
     case rel=>exact⟨k+1,rs.set (k+m.length) c,by omega,by go_num,B.o.set (k+m.length) c,by rw[List.length_set];exact f.o,n.o.set _ hc,Y.o,p.setCell lZ _⟩
     case measure=>simp[intOf];omega
  .
   have Z:val 4294967296 rs=x*y:=by
    have X:k=l.length:=by omega
    have G:=A.o;rw[X,List.take_length,List.take_of_length_le (by omega),H.num.eq] at G;exact G
   clear g hB;go_wp2_with fail;refine(Qa4 w.heap.size (l.length+m.length) (l.length+m.length) (x*y) rs _ B.o f.o n.o lZ M Z).mono ?_;rintro e w1 ⟨⟨a,cap,r,rfl,hu⟩,rfl⟩;go_wp2;go_ret;exact⟨⟨a,cap,r,rfl,hu⟩,p⟩
theorem Qm5{k:IntKind}{w:Vz}{b:Nat}{e:Vr}{v:Value}{l:Vy}(h:w.ownsRow b e 1 v l.length (l.map (fun n:Nat=>Value.int k n))):
 ∃a cap,v=.slice a l.length cap/\Row k w a cap l:=by
 obtain⟨x,p⟩:=h;rcases p with ⟨rfl,q⟩|⟨g,cap,c,rfl,y,f,j,r,s,m⟩
 .
  have:l= []:=List.length_eq_zero_iff.1 q;subst this;exact⟨none,0,rfl,Row.nil k w⟩
 .
  have d:g<w.heap.size:=by
   apply bC;intro z;rw[Array.getElem?_eq_none (by omega)] at f;cases f
  refine⟨_,cap,rfl,j,.inr ⟨g,0,rfl,d⟩,fun i t=>⟨g,0,rfl,d,?_⟩⟩;have u:c[i]?=some (.int k ((l.getD i 0:Nat):Int)):=by
   have o:(c.toList.take (l.length*1))[i]?=(l.map (fun n:Nat=>Value.int k n))[i]?:=by rw[m]
   rw[List.getElem?_take_of_lt (by omega),Array.getElem?_toList] at o;rw[o];simp[t]
  simp[World.cell?,f,u]
theorem Qaq(b a j:Nat):(⟨b,a,none⟩:Addr).add j=⟨b,a+j,none⟩:=by
 unfold Addr.add
 split
 . rename_i h;subst h;rfl
 . rfl
theorem Qm6(x:Nat):val 4294967296 [x % 4294967296,x / 4294967296]=x:=by
 simp only[val];omega
theorem Qbx(X:Int)(w:Vz)(g:0<=X)(i:X<18446744073709551616):
 Calls prog 113 #[.int .u64 X] w fun e w'=>(∃a cap r,e=.returned (.slice a r.length cap)/\U32 w' a cap r X.toNat/\r.length<=2)/\Below w.heap.size w w':=by
 obtain⟨x,rfl⟩:=Int.eq_ofNat_of_zero_le g;rw[Int.toNat_natCast];go_enter func113,ntmps113;go_wp2_with fail;have b:(x:Int) % 4294967296=((x % 4294967296:Nat):Int):=by omega
 have c:(x:Int) / 4294967296=((x / 4294967296:Nat):Int):=by omega
 have hB:Blk .u32 201 (w.alloc (Obj.cells #[Value.int IntKind.u32 ((x:Int) % 4294967296),Value.int IntKind.u32 ((x:Int) / 4294967296)] 201)) w.heap.size [x % 4294967296,x / 4294967296]:=by
  rw[b,c];exact Blk.new .u32 201 w [x % 4294967296,x / 4294967296]
 clear b c;refine(Qa4 w.heap.size 2 2 x [x % 4294967296,x / 4294967296] _ hB rfl ?_ lZ (by omega) (Qm6 x)).mono ?_
 .
  intro d h;simp at h;omega
 rintro e w1 ⟨⟨a,cap,r,rfl,f⟩,rfl⟩;go_wp2;go_ret;exact⟨⟨a,cap,r,rfl,f,f.num.length_le_of_lt (by omega) (by omega)⟩,bR.alloc lZ _⟩
theorem Qdl(a:Vx)(cap:Nat)(l:Vy)(x:Nat)(w:Vz)(h:U32 w a cap l x):
 Calls prog 155 #[.slice a l.length cap] w fun e w'=>(∃a cap,e=.returned (.slice a l.length cap)/\U32 w' a cap l x)/\Below w.heap.size w w':=by
 obtain⟨s,t,o,p,hz2⟩:=info_parts Tryz.info32;have v:=h.short;rcases h.row.shape with ⟨rfl,rfl⟩|⟨b,g,rfl,D⟩
 .
  have hl:=h.row.fit;have:l= []:=List.length_eq_zero_iff.1 (by omega);subst this;go_enter func155,ntmps155;go_wp2_with (at_builtin;refine wpList_append_own_none rfl _ _ 120 rfl w.heap.size 201 s 1 underlying120 t _ 0 [] rfl (World.ownsRow_nil _ _ _ _) rfl ?_);go_ret;exact⟨⟨none,0,rfl,h⟩,Below.refl _ _⟩
 .
  go_enter func155,ntmps155;go_wp2_with (at_builtin;refine wpList_append_own _ rfl _ _ 120 rfl w.heap.size 201 s (.int .u32 0) 1 4 underlying120 t o p hz2 rfl (by decide) _ 0 [] rfl (World.ownsRow_nil _ _ _ _) ⟨b,g,none⟩ l.length cap (l.map (fun n:Nat=>Value.int .u32 n)) rfl (by simp) ?c1 ?c2 ?c3 ?c4 lZ ?_)
  case c1=>
   intro j u y;obtain⟨q,r⟩:=gZ y;have c:j<l.length:=by simpa using q
   obtain⟨z,i,A,_,B⟩:=h.row.cell j c;obtain⟨rfl,rfl⟩:b=z/\g=i:=by simpa using A
   rw[Qaq,B,<-r];simp[c]
  case c2=>intro u r;obtain⟨n,_,rfl⟩:=List.mem_map.1 r;rfl
  case c3=>unfold maxLen;omega
  case c4=>omega
  .
   intro E w1 d f _;obtain⟨C,cap',rfl,m⟩:=Qm5 d;clear d;go_wp2;go_ret;exact⟨⟨C,cap',rfl,m,h.num,v⟩,bR.grown f lZ (fun k hk=>by simp[Value.ownBlock] at hk)⟩
end Go.Proofs.YtppkmifkpjkgpaaGreatDoor
namespace Go.Proofs.YtppkmifkpjkgpaaGreatDoor
set_option linter.unusedSimpArgs false
set_option linter.unusedVariables false
set_option maxHeartbeats 8000000
set_option maxRecDepth 1000000
theorem or64(x y:Int)(a b i:Nat)(c:x=((2 ^ i*a:Nat):Int))(d:y=(b:Int))(e:b<2 ^ i)(f:2 ^ i*a+b<18446744073709551616):bits .or .u64 x y=((2 ^ i*a+b:Nat):Int):=by
 subst c;subst d;rw[u64_or_nat _ _ (by omega) (by omega),Nat.two_pow_add_eq_or_of_lt e]
theorem or64'(x y:Int)(a b i:Nat)(c:x=((2 ^ i*a:Nat):Int))(d:y=(b:Int))(e:b<2 ^ i)(f:2 ^ i*a+b<18446744073709551616):bits .or .u64 y x=((2 ^ i*a+b:Nat):Int):=by
 subst c;subst d;rw[u64_or_nat _ _ (by omega) (by omega),Nat.or_comm,Nat.two_pow_add_eq_or_of_lt e]
theorem or32'(x y:Int)(a b i:Nat)(c:x=((2 ^ i*a:Nat):Int))(d:y=(b:Int))(e:b<2 ^ i)(f:2 ^ i*a+b<4294967296):bits .or .u32 y x=((2 ^ i*a+b:Nat):Int):=by
 subst c;subst d;rw[u32_or_nat _ _ (by omega) (by omega),Nat.or_comm,Nat.two_pow_add_eq_or_of_lt e]
theorem Qhn(t:Nat)(h:0<t):nb (t / 2)+1=nb t:=by
 unfold nb;by_cases a:t=1
 · subst a;rfl
 ·
  rw[if_neg (by omega),if_neg (by omega)];have:t.log2=(t / 2).log2+1:=by
   rw[Nat.log2_def,if_pos (by omega)]
  omega
theorem Qm7(k b a:Nat)(h:b<2 ^ k)(c:0<a):nb (b+2 ^ k*a)=k+nb a:=by
 have e:=Qfd a;have f:nb (b+2 ^ k*a)≤k+nb a:=by
  apply nb_le;rw[Nat.pow_add];have:=Nat.mul_le_mul_left (2 ^ k) (show a+1≤2 ^ nb a by omega);rw[Nat.mul_add] at this;omega
 have g:k+nb a≤nb (b+2 ^ k*a):=by
  have d:2 ^ (nb a - 1)≤a:=Qh5 (by have:=Qdo c;omega);have i:2 ^ (k+(nb a - 1))≤b+2 ^ k*a:=by
   rw[Nat.pow_add];have:=Nat.mul_le_mul_left (2 ^ k) d;omega
  apply Classical.byContradiction;intro j;have l:=Qfd (b+2 ^ k*a);have m:2 ^ nb (b+2 ^ k*a)≤2 ^ (k+(nb a - 1)):=Nat.pow_le_pow_right (by omega) (by omega);omega
 omega
theorem Num.nb_eq{q:Nat}{l:List Nat}{n:Nat}(h:Num (2 ^ q) l n)(hl:0<l.length):nb n=q*(l.length - 1)+nb (l.getD (l.length - 1) 0):=by
 have c:0<l.getD (l.length - 1) 0:=by
  rcases h.trim with rfl|d
  · simp at hl
  · omega
 have e:=Qah (2 ^ q) l (l.length - 1) (by omega);have a:=Qal (2 ^ q) l (l.length - 1) (by omega);rw[show l.length - 1+1=l.length from by omega,List.drop_of_length_le (Nat.le_refl _)] at a;simp only[val,Nat.mul_zero,Nat.add_zero] at a;rw[h.eq,a,←Nat.pow_mul] at e;have b:=Qaa (Nat.pow_pos (by omega)) (h.small.take (l.length - 1));rw[List.length_take,Nat.min_eq_left (by omega),←Nat.pow_mul] at b;rw[e,Qm7 _ _ _ b c]
theorem Qho(B j d e r:Nat)(rs l:List Nat)(a:j<rs.length)(hl:j<l.length)(b:l.getD j 0=e)(h:val B (rs.drop (j+1))*d+r=val B (l.drop (j+1))):
 val B ((rs.set j ((B*r+e) / d)).drop j)*d+(B*r+e) % d=val B (l.drop j):=by
 rw[Qal B l j hl,b,←h,Qcv _ j (by simp;omega),Qby,List.drop_set_of_lt (by omega),List.getD_eq_getElem?_getD,List.getElem?_set_self a];have c:=Nat.div_add_mod (B*r+e) d;simp only[Option.getD_some,Nat.add_mul];rw[Nat.mul_comm d] at c;rw[Nat.mul_add,Nat.mul_assoc];omega
theorem Qe5{s:Nat}(a:s<32):2 ^ s≤2147483648:=by
 have:=Nat.pow_le_pow_right (n:=2) (by omega) (show s≤31 by omega);exact this
theorem Qe6{s:Nat}(a:s≤32):2 ^ s*2 ^ (32 - s)=4294967296:=by
 rw[←Nat.pow_add,show s+(32 - s)=32 from by omega]
theorem Qdm(d s:Nat)(a:s≤32):d*2 ^ s % 4294967296=2 ^ s*(d % 2 ^ (32 - s)):=by
 rw[←Qe6 a,Nat.mul_comm d,Nat.mul_mod_mul_left]
theorem Qm8(d s:Nat)(a:s≤32):d*2 ^ s % 4294967296+2 ^ s≤4294967296:=by
 rw[Qdm d s a];have b:d % 2 ^ (32 - s)+1≤2 ^ (32 - s):=Nat.mod_lt _ (Nat.pow_pos (by omega));have c:=Nat.mul_le_mul_left (2 ^ s) b;rw[Qe6 a,Nat.mul_add] at c;omega
theorem Qcb(n:Nat)(h:n<18446744073709551616):IntKind.u64.wrap (n:Int)=(n:Int):=by
 simp[IntKind.wrap,IntKind.signed,IntKind.bits];omega
theorem Qm9(d s z:Nat)(a:s<32)(b:d<4294967296)(c:z<2 ^ s):
 bits .or .u32 (z:Int) (IntKind.u64.wrap ((d:Int)*2 ^ (s % 32)) % 4294967296)=((d*2 ^ s % 4294967296+z:Nat):Int)∧
 bits .or .u32 0 (IntKind.u64.wrap ((d:Int)*2 ^ (s % 32)) / 4294967296 % 4294967296)=((d*2 ^ s / 4294967296:Nat):Int)∧
 d*2 ^ s % 4294967296+z<4294967296∧d*2 ^ s / 4294967296<2 ^ s:=by
 have e:=Qe5 a;have h:d*2 ^ s≤4294967295*2147483648:=Nat.mul_le_mul (by omega) e;have i:=Qm8 d s (by omega);have f:d*2 ^ s / 4294967296<2 ^ s:=by
  rw[Nat.div_lt_iff_lt_mul (by omega),Nat.mul_comm (2 ^ s)];exact Nat.mul_lt_mul_of_pos_right b (Nat.pow_pos (by omega))
 have g:IntKind.u64.wrap ((d:Int)*2 ^ (s % 32))=((d*2 ^ s:Nat):Int):=by
  rw[Nat.mod_eq_of_lt a];have:((d:Int)*2 ^ s)=((d*2 ^ s:Nat):Int):=by simp
  rw[this,Qcb _ (by omega)]
 rw[g];refine⟨?_,?_,by omega,f⟩
 · rw[or32' (((d*2 ^ s:Nat):Int) % 4294967296) (z:Int) (d % 2 ^ (32 - s)) z s (by rw[←Qdm d s (by omega)];omega) rfl c (by rw[←Qdm d s (by omega)];omega),←Qdm d s (by omega)]
 ·
  rw[show (((d*2 ^ s:Nat):Int) / 4294967296 % 4294967296)=((d*2 ^ s / 4294967296:Nat):Int) from by omega];have:=u32_or_nat 0 (d*2 ^ s / 4294967296) (by omega) (by omega);rw[Nat.zero_or] at this;exact this
theorem Qna(k d s z:Nat)(rs l:List Nat)(hk:k+1<rs.length)(a:l.getD k 0=d)(b:rs.getD k 0=z)(h:val 4294967296 (rs.take (k+1))=val 4294967296 (l.take k)*2 ^ s):
 val 4294967296 (((rs.set k (d*2 ^ s % 4294967296+z)).set (k+1) (d*2 ^ s / 4294967296)).take (k+1+1))=val 4294967296 (l.take (k+1))*2 ^ s:=by
 rw[take_set _ _ _ (by simp;omega),Qaj,List.length_take,Nat.min_eq_left (by simp;omega),take_set _ _ _ (by omega),Qaj,List.length_take,Nat.min_eq_left (by omega)];rw[Qac,b] at h;rw[Qac _ l,a,Nat.add_mul,←h,Nat.pow_succ,Nat.mul_add,Nat.mul_assoc (4294967296 ^ k) d];have e:=Nat.mod_add_div (d*2 ^ s) 4294967296;have c:4294967296 ^ k*(d*2 ^ s % 4294967296+4294967296*(d*2 ^ s / 4294967296))=4294967296 ^ k*(d*2 ^ s):=by rw[e]
 rw[Nat.mul_add,←Nat.mul_assoc] at c;omega
theorem Qnb(d e s:Nat)(k:s<32)(l:d<4294967296):((4294967296*e+d) / 2 ^ s % 4294967296)*2 ^ s+d % 2 ^ s=d+4294967296*(e % 2 ^ s):=by
 have b:0<2 ^ s:=Nat.pow_pos (by omega);have a:=Qe6 (s:=s) (by omega);generalize hP:2 ^ s=p at*;generalize hT:2 ^ (32 - s)=t at*;have c:(4294967296*e+d) / p=t*e+d / p:=by
  rw[←a,Nat.mul_assoc,Nat.mul_add_div b]
 have f:=Nat.div_add_mod e p;have g:t*e=4294967296*(e / p)+t*(e % p):=by
  conv=>lhs;rw[←f]
  rw[Nat.mul_add,←Nat.mul_assoc,Nat.mul_comm t p,a]
 have m:d / p<t:=by rw[Nat.div_lt_iff_lt_mul b,Nat.mul_comm];omega
 have h:e % p+1≤p:=Nat.mod_lt _ b;have i:=Nat.mul_le_mul_left t h;rw[Nat.mul_add,Nat.mul_comm t p,a] at i;rw[c,g,Nat.add_assoc,Nat.mul_add_mod,Nat.mod_eq_of_lt (by omega),Nat.add_mul];have j:=Nat.div_add_mod d p;rw[Nat.mul_comm p] at j;have n:t*(e % p)*p=4294967296*(e % p):=by
  rw[Nat.mul_comm (t*(e % p)) p,←Nat.mul_assoc,a]
 omega
theorem Qhp(k d e s b:Nat)(rs l:List Nat)(f:s<32)(a:d<4294967296)(hk:k<rs.length)(c:l.getD k 0=d)(g:l.getD (k+1) 0=e)
 (h:val 4294967296 (rs.take k)*2 ^ s+b=val 4294967296 (l.take k)+4294967296 ^ k*(l.getD k 0 % 2 ^ s)):
 val 4294967296 ((rs.set k ((4294967296*e+d) / 2 ^ s % 4294967296)).take (k+1))*2 ^ s+b=val 4294967296 (l.take (k+1))+4294967296 ^ (k+1)*(l.getD (k+1) 0 % 2 ^ s):=by
 have i:=Qnb d e s f a;rw[take_set _ _ _ hk,Qaj,List.length_take,Nat.min_eq_left (by omega),Qac _ l,c,g,Nat.add_mul,Nat.pow_succ];rw[c] at h;have j:4294967296 ^ k*(((4294967296*e+d) / 2 ^ s % 4294967296)*2 ^ s+d % 2 ^ s)=4294967296 ^ k*(d+4294967296*(e % 2 ^ s)):=by rw[i]
 rw[Nat.mul_add,Nat.mul_add,←Nat.mul_assoc,←Nat.mul_assoc] at j;omega
theorem Qhq(v s:Nat)(a:s<32):(v:Int) / 2 ^ (s % 32) % 4294967296=((v / 2 ^ s % 4294967296:Nat):Int):=by
 rw[Nat.mod_eq_of_lt a];simp
open Go.RowKit
open Go.Proofs.Tryz
theorem Qca(a:Vx)(cap:Nat)(l:Vy)(x:Nat)(w:Vz)(h:U32 w a cap l x)(hl:l.length<=2):
 Calls prog 184 #[.slice a l.length cap] w fun e w'=>e=.returned (.int .u64 x)/\w'=w:=by
 have c:=h.num.eq
 match l,hl,h,c with
 | [],_,h,c=>
   simp only[val] at c;subst c;go_enter func184,ntmps184;go_wp2;go_ret;exact⟨rfl,rfl⟩
 | [d],_,h,c=>
   obtain⟨b,g,rfl,j,f⟩:=h.row.cell 0 (by simp);have m:d<4294967296:=h.num.small d (by simp);simp[val] at c f;subst c;clear h;go_enter func184,ntmps184;go_wp2;go_ret;exact⟨rfl,rfl⟩
 | [d,e],_,h,c=>
   obtain⟨b,g,rfl,j,f⟩:=h.row.cell 0 (by simp);obtain⟨o,i,n,p,k⟩:=h.row.cell 1 (by simp);obtain⟨rfl,rfl⟩:b=o/\g=i:=by simpa using n
   have m:d<4294967296:=h.num.small d (by simp);have r:e<4294967296:=h.num.small e (by simp);simp[val] at c f k;have s:O (d+4294967296*e=x):=c;have q:bits .or .u64 (d:Int) ((e:Int)*4294967296)=(x:Int):=by
    rw[or64' ((e:Int)*4294967296) (d:Int) e d 32 (by omega) rfl m (by omega)];omega
   clear h n c;go_enter func184,ntmps184;go_wp2;go_ret;exact⟨rfl,rfl⟩
theorem Qm0(a:Vx)(cap d:Nat)(l:Vy)(x:Nat)(w:Vz)(h:U32 w a cap l x)(f:0<d)(hd:d<4294967296):
 Calls prog 175 #[.slice a l.length cap,.int .u32 d] w fun e w'=>(∃a cap r,e=.returned (.tuple #[.slice a r.length cap,.int .u32 (x % d:Nat)])/\U32 w' a cap r (x / d))/\Below w.heap.size w w':=by
 have s1:=h.short;have C:∀w,(Instr.makeSlice 120 (.int .i64 (l.length:Int)) (.int .i64 (l.length:Int))).run prog w=.ok (.slice (some ⟨w.heap.size,0,none⟩) l.length l.length) (w.alloc (.cells (wordCells .u32 (zeros l.length)) 201)):=
  fun w=>Qa7 _ l.length rfl (by omega) w
 go_enter func175,ntmps175;go_wp2;clear C;go_loopw [7,8] (fun r i wr=>∃(k c:Nat) (rs:Vy),k<=l.length/\c<d/\r=.int .u64 c/\i=.int .i64 ((k:Int) - 1)/\Blk .u32 201 wr w.heap.size rs/\rs.length=l.length/\Small 4294967296 rs/\
  val 4294967296 (rs.drop k)*d+c=val 4294967296 (l.drop k)/\Below w.heap.size w wr) (fun _ i _=>(intOf i+1).toNat)
 case atStart=>exact⟨l.length,0,zeros l.length,Nat.le_refl _,f,rfl,rfl,Blk.new _ _ _ _,Qaf _,Qak _ _ (by omega),by rw[List.drop_of_length_le (by rw[Qaf];exact Nat.le_refl _),List.drop_of_length_le lZ];simp[val],bR.alloc lZ _⟩
 case round=>
  obtain⟨k,r,rs,hk,J,rfl,rfl,hB,m,v,K,D⟩:=hrel;have L:O (val 4294967296 (rs.drop k)*d+r=val 4294967296 (l.drop k)):=K;have n:O (rs.length=l.length):=m;have M:O (Blk .u32 201 wr w.heap.size rs):=hB;have y:O (Small 4294967296 rs):=v;clear K v;by_cases T:k=0
  .
   subst T;have A:=L.o;simp only[List.drop_zero,h.num.eq] at A;have p:val 4294967296 rs=x / d:=by
    rw[<-A,Nat.mul_comm,Nat.mul_add_div f,Nat.div_eq_of_lt J,Nat.add_zero]
   have N:x % d=r:=by
    rw[<-A,Nat.mul_comm,Nat.mul_add_mod,Nat.mod_eq_of_lt J]
   have U:O (x % d=r):=N;clear m hB A N;have V:O (val 4294967296 rs=x / d):=p;clear p;go_wp2_with fail;refine(Qa4 w.heap.size l.length l.length (x / d) rs _ M.o n.o y.o lZ (by omega) V.o).mono ?_;rintro e w1 ⟨⟨a,cap,r,rfl,W⟩,rfl⟩;go_wp2;go_ret2;exact⟨⟨a,cap,r,by rw[U.o];rfl,W⟩,D⟩
  .
   obtain⟨j,rfl⟩:∃j,k=j+1:=⟨k - 1,by omega⟩;obtain⟨b,X,rfl,E,t⟩:=h.row.cell j (by omega);obtain⟨e,B⟩:=nm (l.getD j 0);have F:e<4294967296:=by rw[<-B];exact h.num.small.getD (by omega) j
   rw[B] at t;have P:=ce D E t;have Y:O (l.getD j 0=e):=B;obtain⟨z,Q⟩:=nm (rs.getD j 0);have g1:=hB.free j;have Z:=hB.cell j (by omega);rw[Q] at Z;clear B t Q hB m;have R:((j+1:Nat):Int) - 1=(j:Int):=by omega
   rw[R];clear R;have aa:((d:Int) == 0)=false:=by rw[beq_eq_false_iff_ne];omega
   obtain⟨s,S⟩:=nm (4294967296*r+e);have ab:bits .or .u64 ((r:Int)*4294967296) (e:Int)=(s:Int):=by
    rw[or64 ((r:Int)*4294967296) (e:Int) r e 32 (by omega) rfl F (by omega)];omega
   obtain⟨q,p⟩:=nm (s / d);obtain⟨c,g⟩:∃c,s % d=c:=⟨_,rfl⟩;have G:q<4294967296:=by
    rw[<-p,Nat.div_lt_iff_lt_mul f];have:=Nat.mul_le_mul_left 4294967296 (show r+1<=d by omega);omega
   have H:c<d:=by rw[<-g];exact Nat.mod_lt _ f
   have u:=Qho 4294967296 j d e r rs l (by have:=n.o;omega) (by omega) Y.o L.o;rw[S,p,g] at u;have t1:(s:Int) / (d:Int)=(q:Int):=by rw[<-p];simp
   have t2:(s:Int) % (d:Int)=(c:Int):=by rw[<-g];simp
   have ad:s<18446744073709551616:=by omega
   have I:O (val 4294967296 ((rs.set j q).drop j)*d+c=val 4294967296 (l.drop j)):=u;clear p g u S;go_wp2;go_roundw
   case rel=>exact⟨j,c,rs.set j q,by omega,H,by rw[t2],rfl,M.o.set j q,by rw[List.length_set];exact n.o,y.o.set j G,I.o,D.setCell lZ _⟩
   case measure=>simp[intOf]
theorem Qm1(a:Vx)(cap:Nat)(l:Vy)(x:Nat)(w:Vz)(h:U32 w a cap l x):
 Calls prog 185 #[.slice a l.length cap] w fun e w'=>e=.returned (.int .i64 (nb x))/\w'=w:=by
 have B:=h.short;by_cases g:l.length=0
 .
  have C:x=0:=(h.num.len_zero (by omega)).2 g;have r:((l.length:Int) == 0)=true:=by simp[g]
  subst C;clear g;go_enter func185,ntmps185;go_wp2;go_ret;exact⟨rfl,rfl⟩
 .
  have r:((l.length:Int) == 0)=false:=by rw[beq_eq_false_iff_ne];omega
  have c:=Num.nb_eq (q:=32) h.num (by omega);obtain⟨b,D,rfl,E,d⟩:=h.row.cell (l.length - 1) (by omega);obtain⟨t,i⟩:=nm (l.getD (l.length - 1) 0);have k:t<4294967296:=by rw[<-i];exact h.num.small.getD (by omega) _
  have F:nb t<=32:=nb_le (by omega);rw[i] at d c;have p:O (nb x=32*(l.length - 1)+nb t):=c;clear i c;obtain⟨j,s⟩:∃j,l.length=j+1:=⟨l.length - 1,by omega⟩;rw[s] at d p r B ⊢;clear s g;simp only[Nat.add_sub_cancel] at d p;go_enter func185,ntmps185;go_wp2;go_loop [3,4] (fun n v=>∃m u:Nat,nb u+m=nb t/\u<4294967296/\n=.int .i64 m/\v=.int .u32 u) (fun n v=>nb (intOf v).toNat)
  case atStart=>exact⟨0,t,rfl,k,rfl,rfl⟩
  case round=>
   obtain⟨m,u,f,G,rfl,rfl⟩:=hrel;have y:O (nb u+m=nb t):=f;have z:m<=32:=by omega
   clear f;by_cases H:u=0
   .
    subst H;have I:(((0:Nat):Int) != 0)=false:=by simp
    go_wp2;go_ret;refine⟨?_,rfl⟩;have A:=y.o;have J:=p.o;rw[Qny] at A;exact congrArg (fun n:Int=>Ending.returned (.int .i64 n)) (by omega)
   .
    have I:((u:Int) != 0)=true:=by rw[bne_iff_ne];omega
    go_wp2;go_round
    case rel=>exact⟨m+1,u / 2,by have:=Qhn u (by omega);have:=y.o;omega,by omega,by go_num,congrArg (Value.int IntKind.u32) (by omega)⟩
    case measure=>
     have A:=Qhn u (by omega)
     show nb (((u:Int) / 2).toNat)<nb ((u:Int).toNat)
     rw[show ((u:Int) / 2).toNat=u / 2 from by omega,Int.toNat_natCast];omega
end Go.Proofs.YtppkmifkpjkgpaaGreatDoor
