import Derived.Test.YtfgclhpgdanmfaaGreatDoorS00Mem
import Derived.RegionTactic
import Derived.ChangeAlike
import Derived.Laws.AppendOwnNone
import Derived.Laws.BitsAllLaws
namespace Go.Proofs.YtfgclhpgdanmfaaGreatDoor
set_option linter.defProp false
open Go.RowKit
open Go.Proofs.Tryz
set_option linter.unusedSimpArgs false
set_option linter.unusedVariables false
set_option maxHeartbeats 8000000
set_option maxRecDepth 1000000
variable{w:Vz}{l:Vy}{n s:Nat}
structure j7 (w:Vz) (a:Vx) (cap:Nat) (l:Vy) (n:Nat):Prop where
 row:Row .u32 w a cap l
 num:Num 4294967296 l n
 short:l.length<=1099511627776
def j7.below{w':Vz}{a:Vx}{cap:Nat}(h:j7 w a cap l n)(hb:Bl w w'):j7 w' a cap l n:=⟨h.row.below hb,h.num,h.short⟩
def DH(G H:Vx)(c1 c2:Nat)(l m:Vy)(x y:Nat)(w:Vz)(a:j7 w G c1 l x)(c:j7 w H c2 m y):
 Calls prog 171 #[.slice G l.length c1,.slice H m.length c2] w fun e w'=>e=.returned (.int .i64 (kZ x y))/\Below w.heap.size w w':=by
 have R:=a.short;have S:=c.short;by_cases f:l.length<m.length
 . have s:((l.length:Int) != (m.length:Int))=true:=by rw[jk];omega
   have t:kZ x y= -1:=GS (by rw[<-a.num.eq,<-c.num.eq];exact zN oO a.num.small c.num.trim f);have z:O (kZ x y= -1):=t;clear t;go_enter func171,ntmps171;go_wp2;go_ret;exact⟨by rw[z.o];rfl,ac _ _⟩
 by_cases u:m.length<l.length
 . have s:((l.length:Int) != (m.length:Int))=true:=by rw[jk];omega
   have t:kZ x y=1:=II (by rw[<-a.num.eq,<-c.num.eq];exact zN oO c.num.small a.num.trim u);have z:O (kZ x y=1):=t;clear t;go_enter func171,ntmps171;go_wp2;go_ret;exact⟨by rw[z.o];rfl,ac _ _⟩
 have n:m.length=l.length:=oO;have I:O (m.length=l.length):=n;rw[n];have s:((l.length:Int) != (l.length:Int))=false:=sS;clear f u n;go_enter func171,ntmps171;go_wp2;go_loopw [5] (fun i wr=>∃k:Nat,k<=l.length/\i=.int .i64 ((k:Int) - 1)/\l.drop k=m.drop k/\Below w.heap.size w wr) (fun i _=>(intOf i+1).toNat)
 case atStart=>exact⟨l.length,aV _,rfl,by rw[dG lZ,dG (by rw[I.o];exact aV _)],ac _ _⟩
 case round=>
  obtain⟨k,hk,rfl,r,hb⟩:=hrel;have v:O (l.drop k=m.drop k):=r;clear r;by_cases M:k=0
  . subst M;go_wp2;go_ret;exact⟨by rw[PE (by rw[<-a.num.eq,<-c.num.eq];have:=v.o;simp at this;rw[this])];rfl,hb⟩
  .
   obtain⟨j,rfl⟩:∃j,k=j+1:=⟨k - 1,oO⟩;have g:j<l.length:=oO;have h:j<m.length:=oB I.o;obtain⟨b,N,rfl,A,p⟩:=a.row.cell j g;obtain⟨T,J,rfl,B,q⟩:=c.row.cell j h;obtain⟨d,r⟩:=nm (l.getD j 0);obtain⟨e,C⟩:=nm (m.getD j 0);rw[r]at p;rw[C]at q;have K:=ce hb A p;have L:=ce hb B q;have D:O (l.getD j 0=d):=r;have E:O (m.getD j 0=e):=C;clear r C p q;have P:((j+1:Nat):Int) - 1=(j:Int):=oO;rw[P];by_cases F:d=e
   .
    subst F;have Q:((d:Int) != (d:Int))=false:=sS;go_wp2;go_region
    all_goals
     go_wp2;go_roundw
     case rel=>exact⟨j,oO,by go_num,PD g h v.o (D.o.trans E.o.symm),hb.drew⟩
     case measure=>simp[intOf]
   .
    have Q:((d:Int) != (e:Int))=true:=by rw[jk];omega
    by_cases f:d<e
    . go_wp2;go_region
      all_goals
       go_wp2;go_region
      all_goals
       go_wp2;go_ret;exact⟨by rw[GS (by rw[<-a.num.eq,<-c.num.eq];exact IH oO a.num.small j g h v.o (by rw[D.o,E.o];exact f))];rfl,hb.drew.drew⟩
    . go_wp2;go_region
      all_goals
       go_wp2;go_region
      all_goals
       go_wp2;go_ret;exact⟨by rw[II (by rw[<-a.num.eq,<-c.num.eq];exact IH oO c.num.small j h g v.o.symm (by rw[D.o,E.o];omega))];rfl,hb.drew.drew⟩
def Yg(l:Vy)(k:Nat)(hk:k<=l.length)(h:k=0∨l.getD (k - 1) 0≠0):Trim (l.take k):=by
 rcases h with rfl|h
 . left;simp
 .
  by_cases a:k=0
  . left;subst a;simp
  . right;rw[cI,eH hk,aC,aW oO,<-aC];exact h
def Yf(B:Nat)(l:Vy)(k:Nat)(hk:k<l.length)(h:l.getD k 0=0):val B (l.take (k+1))=val B (l.take k):=by rw[EQ B l k hk,h];simp
def Qh(a:Vx)(cap:Nat)(l:Vy)(w:Vz)(h:Row .u32 w a cap l)(hl:l.length<=1099511627776):
 Calls prog 183 #[.slice a l.length cap] w fun e w'=>(∃k,k<=l.length/\e=.returned (.slice a k cap)/\val 4294967296 (l.take k)=val 4294967296 l/\Trim (l.take k))/\w'=w:=by
 have i:=h.fit;go_enter func183,ntmps183;go_wp2;go_loop [3] (fun n=>∃k:Nat,k<=l.length/\n=.int .i64 k/\val 4294967296 (l.take k)=val 4294967296 l) (fun n=>(intOf n).toNat)
 case atStart=>exact⟨l.length,aV _,rfl,by rw[dB]⟩
 case round=>
  obtain⟨k,hk,rfl,m⟩:=hrel;have c:O (val 4294967296 (l.take k)=val 4294967296 l):=m;clear m;by_cases s:k=0
  . subst s;rcases h.shape with ⟨rfl,rfl⟩|⟨b,f,rfl,hb⟩
    all_goals
     go_wp2;go_ret;exact⟨⟨0,oO,sS,c.o,.inl sS⟩,rfl⟩
  .
   obtain⟨b,f,rfl,hb,p⟩:=h.cell (k - 1) oO;obtain⟨j,rfl⟩:∃j,k=j+1:=⟨k - 1,oO⟩;simp only[gW]at p;obtain⟨d,g⟩:=nm (l.getD j 0);rw[g]at p;have q:O (l.getD j 0=d):=g;clear g;by_cases r:d=0
   . subst r;go_wp2;go_round
     case rel=>exact⟨j,oO,by go_num,(Yf _ l j oO q.o).symm.trans c.o⟩
     case measure=>simp[intOf]
   . have t:((d:Int) == 0)=false:=sO;go_wp2;go_ret;exact⟨⟨j+1,hk,sS,c.o,Yg l (j+1) hk (.inr (by rw[gW,q.o];exact r))⟩,rfl⟩
def B9(g n cap x:Nat)(rs:Vy)(w:Vz)(h:jf .u32 213 w g rs)(hl:rs.length=n)(j:Small 4294967296 rs)(k:n<=cap)(m:n<=1099511627776)(l:val 4294967296 rs=x):
 Calls prog 183 #[.slice (some ⟨g,0,none⟩) n cap] w fun e w'=>(∃a cap r,e=.returned (.slice a r.length cap)/\j7 w a cap r x)/\w'=w:=by
 have c:=h.row n oO cap k;rw[bL oO]at c;have i:=Qh (some ⟨g,0,none⟩) cap rs w c oO;rw[hl]at i;refine i.mono ?_;rintro e w1 ⟨⟨q,o,rfl,d,f⟩,rfl⟩;have b:(rs.take q).length=q:=tO;exact⟨⟨_,cap,rs.take q,by rw[b],c.take q oO,⟨j.take q,f,d.trans l⟩,by rw[b];omega⟩,rfl⟩
def Qm(S T:Vx)(c1 c2:Nat)(l m:Vy)(x y:Nat)(w:Vz)(v:j7 w S c1 l x)(A:j7 w T c2 m y)(hl:l.length<1099511627776)(hm:m.length<1099511627776):
 Calls prog 133 #[.slice S l.length c1,.slice T m.length c2] w fun e w'=>(∃a cap r,e=.returned (.slice a r.length cap)/\j7 w' a cap r (x+y))/\Below w.heap.size w w':=by
 by_cases Z:l.length<m.length
 case' pos=> obtain⟨L,rfl⟩:∃x,x=m:=⟨_,rfl⟩;obtain⟨M,rfl⟩:∃x,x=l:=⟨_,rfl⟩;have q:=A;have s:=v
 case' neg=> obtain⟨L,rfl⟩:∃x,x=l:=⟨_,rfl⟩;obtain⟨M,rfl⟩:∃x,x=m:=⟨_,rfl⟩;have q:=v;have s:=A
 all_goals
  clear v A;have B:∀w,(Instr.makeSlice 112 (.int .i64 ((L.length:Int)+1)) (.int .i64 ((L.length:Int)+1))).run prog w=.ok (.slice (some ⟨w.heap.size,0,none⟩) (L.length+1) (L.length+1)) (w.alloc (.cells (dA .u32 (zeros (L.length+1))) 213)):=
   fun w=>CO _ (L.length+1) oO oO w
  go_enter func133,ntmps133;go_wp2;clear B;go_loopw [6,7] (fun c i wr=>∃(k C:Nat)(rs:Vy),k<=L.length/\C<=1/\c=.int .u64 C/\i=.int .i64 k/\jf .u32 213 wr w.heap.size rs/\rs.length=L.length+1/\Small 4294967296 rs/\
   val 4294967296 (rs.take k)+4294967296 ^ k*C=val 4294967296 (L.take k)+val 4294967296 (M.take k)/\Below w.heap.size w wr) (fun _ i _=>L.length - (intOf i).toNat)
  case atStart=>exact⟨0,0,zeros (L.length+1),oO,oO,rfl,rfl,mn _ _ _ _,uC _,wZ _ _ oO,by simp[val],bR.alloc lZ _⟩
  case round=>
   obtain⟨k,c,rs,hk,hc,rfl,rfl,hB,g,h,U,hb⟩:=hrel;have D:O (val 4294967296 (rs.take k)+4294967296 ^ k*c=val 4294967296 (L.take k)+val 4294967296 (M.take k)):=U;have f:O (rs.length=L.length+1):=g;have E:O (jf .u32 213 wr w.heap.size rs):=hB;clear U;by_cases F:k<L.length
   .
    obtain⟨b,aa,rfl,G,j⟩:=q.row.cell k F;obtain⟨d,t⟩:=nm (L.getD k 0);have ab:d<4294967296:=by rw[<-t];exact q.num.small.getD oO k
    rw[t]at j;have V:=ce hb G j;have W:O (L.getD k 0=d):=t;obtain⟨z,p⟩:=nm (rs.getD k 0);have g1:=hB.free k;have H:=hB.cell k oO;rw[p]at H;clear t j p hB g;by_cases I:k<M.length
    .
     obtain⟨b',X,rfl,J,n⟩:=s.row.cell k I;obtain⟨e,u⟩:=nm (M.getD k 0);have ad:e<4294967296:=by rw[<-u];exact s.num.small.getD oO k
     rw[u]at n;have Y:=ce hb J n;have H2:O (M.getD k 0=e):=u;clear u n;have K:O (((c:Int)+d+e) % 4294967296=(((c+(d+e)) % 4294967296:Nat):Int)):=by unfold O;omega
     have N:O (((c:Int)+d+e) / 4294967296=(((c+(d+e)) / 4294967296:Nat):Int)):=by unfold O;omega
     go_wp2;go_roundw
     case rel=> rw[K.o,N.o];exact⟨k+1,(c+(d+e)) / 4294967296,rs.set k ((c+(d+e)) % 4294967296),oO,oO,rfl,by go_num,E.o.set k _,by rw[aQ];exact f.o,h.set k oO,PB k c d e rs L M (oB f.o) W.o H2.o D.o,hb.setCell lZ _⟩
     case measure=>exact mI
    . have K:O (((c:Int)+d) % 4294967296=(((c+(d+0)) % 4294967296:Nat):Int)):=by unfold O;omega
      have N:O (((c:Int)+d) / 4294967296=(((c+(d+0)) / 4294967296:Nat):Int)):=by unfold O;omega
      go_wp2;go_roundw
      case rel=> rw[K.o,N.o];exact⟨k+1,(c+(d+0)) / 4294967296,rs.set k ((c+(d+0)) % 4294967296),oO,oO,rfl,by go_num,E.o.set k _,by rw[aQ];exact f.o,h.set k oO,PB k c d 0 rs L M (oB f.o) W.o (FJ M k oO) D.o,hb.setCell lZ _⟩
      case measure=>exact mI
   . obtain⟨z,p⟩:=nm (rs.getD L.length 0);have g1:=hB.free L.length;have H:=hB.cell L.length oO;rw[p]at H;clear p hB g;go_wp2_with fail;have P:(rs.set L.length c).length=L.length+1:=by rw[aQ];exact f.o
     have Q:=E.o.set L.length c;have R:val 4294967296 (rs.set L.length c)=x+y:=by rw[PC _ _ _ _ f.o];have e1:k=L.length:=oO;have e2:=D.o;rw[e1,dB,DD _ M _ oO,q.num.eq,s.num.eq]at e2;omega
     refine(B9 w.heap.size (L.length+1) (L.length+1) (x+y) (rs.set L.length c) _ Q P (h.set _ oO) lZ oO R).mono ?_;rintro e w1 ⟨⟨a,cap,r,rfl,hu⟩,rfl⟩;go_wp2;go_ret;exact⟨⟨a,cap,r,rfl,hu⟩,hb.setCell lZ _⟩
def Qi(U V:Vx)(c1 c2:Nat)(l m:Vy)(x y:Nat)(w:Vz)(A:j7 w U c1 l x)(C:j7 w V c2 m y)(ad:y<=x):
 Calls prog 209 #[.slice U l.length c1,.slice V m.length c2] w fun e w'=>(∃a cap r,e=.returned (.slice a r.length cap)/\j7 w' a cap r (x - y))/\Below w.heap.size w w':=by
 have ae:m.length<=l.length:=by apply bC;intro G;have:=zN (B:=4294967296) oO A.num.small C.num.trim oO;rw[A.num.eq,C.num.eq]at this;omega
 have s1:=A.short;have H:=
  fun w=>CO _ l.length rfl oO w
 go_enter func209,ntmps209;go_wp2;clear H;go_loopw [6,7] (fun c i wr=>∃(k f:Nat)(rs:Vy),k<=l.length/\f<=1/\c=.int .u64 f/\i=.int .i64 k/\jf .u32 213 wr w.heap.size rs/\rs.length=l.length/\Small 4294967296 rs/\
  val 4294967296 (rs.take k)+val 4294967296 (m.take k)=val 4294967296 (l.take k)+4294967296 ^ k*f/\Below w.heap.size w wr) (fun _ i _=>l.length - (intOf i).toNat)
 case atStart=>exact⟨0,0,zeros l.length,oO,oO,rfl,rfl,mn _ _ _ _,uC _,wZ _ _ oO,by simp[val],bR.alloc lZ _⟩
 case round=>
  obtain⟨k,c,rs,hk,G,rfl,rfl,hB,j,n,W,hb⟩:=hrel;have I:O (val 4294967296 (rs.take k)+val 4294967296 (m.take k)=val 4294967296 (l.take k)+4294967296 ^ k*c):=W;have g:O (rs.length=l.length):=j;have J:O (jf .u32 213 wr w.heap.size rs):=hB;clear W;by_cases K:k<l.length
  .
   obtain⟨b,af,rfl,L,s⟩:=A.row.cell k K;obtain⟨d,E⟩:=nm (l.getD k 0);have D:d<4294967296:=by rw[<-E];exact A.num.small.getD oO k
   rw[E]at s;have X:=ce hb L s;have Y:O (l.getD k 0=d):=E;obtain⟨z,Z⟩:=nm (rs.getD k 0);have g1:=hB.free k;have g2:=hB.cell k oO;rw[Z]at g2;clear E s Z hB j;by_cases M:k<m.length
   . obtain⟨b',aa,rfl,N,t⟩:=C.row.cell k M;obtain⟨e,F⟩:=nm (m.getD k 0);have P:e<4294967296:=by rw[<-F];exact C.num.small.getD oO k
     rw[F]at t;have ab:=ce hb N t;have H2:O (m.getD k 0=e):=F;clear F t;obtain⟨r,f,u,v,h,p,q⟩:=PA d c e D P G;have Q:O (r+c+e=d+4294967296*f):=h;have R:O (((((d:Int) - c) % 18446744073709551616 - e) % 18446744073709551616) % 4294967296=(r:Int)):=p;have S:O (((((d:Int) - c) % 18446744073709551616 - e) % 18446744073709551616) / 9223372036854775808=(f:Int)):=q;clear h p q;go_wp2;go_roundw
     case rel=> simp only[xw,R.o,S.o];exact⟨k+1,f,rs.set k r,oO,v,rfl,by go_num,J.o.set k _,by rw[aQ];exact g.o,n.set k u,LC _ k c d e r f rs l m (oB g.o) Y.o H2.o Q.o I.o,hb.setCell lZ _⟩
     case measure=>exact mI
   .
    obtain⟨r,f,u,v,h,p,q⟩:=PA d c 0 D oO G;have Q:O (r+c+0=d+4294967296*f):=h;have R:O ((((d:Int) - c) % 18446744073709551616) % 4294967296=(r:Int)):=by unfold O;omega
    have S:O ((((d:Int) - c) % 18446744073709551616) / 9223372036854775808=(f:Int)):=by unfold O;omega
    clear h p q;go_wp2;go_roundw
    case rel=> simp only[xw,R.o,S.o];exact⟨k+1,f,rs.set k r,oO,v,rfl,by go_num,J.o.set k _,by rw[aQ];exact g.o,n.set k u,LC _ k c d 0 r f rs l m (oB g.o) Y.o (FJ m k oO) Q.o I.o,hb.setCell lZ _⟩
    case measure=>exact mI
  .
   have T:val 4294967296 rs=x - y:=by
    have e1:k=l.length:=oO;have e2:=I.o;rw[e1,dB,DD _ m _ oO,bL oO,A.num.eq,C.num.eq]at e2;have e3:=qi (B:=4294967296) oO n;rw[j]at e3;have e4:c=0:=by apply bC;intro ag;have:c=1:=oO;subst this;omega
    subst e4;omega
   clear j hB;go_wp2_with fail;refine(B9 w.heap.size l.length l.length (x - y) rs _ J.o g.o n lZ oO T).mono ?_;rintro e w1 ⟨⟨a,cap,r,rfl,hu⟩,rfl⟩;go_wp2;go_ret;exact⟨⟨a,cap,r,rfl,hu⟩,hb⟩
def Qk(Z a2:Vx)(c1 c2:Nat)(l m:Vy)(x y:Nat)(w:Vz)(G:j7 w Z c1 l x)(H:j7 w a2 c2 m y)(L:l.length+m.length<=1099511627776):
 Calls prog 134 #[.slice Z l.length c1,.slice a2 m.length c2] w fun e w'=>(∃a cap r,e=.returned (.slice a r.length cap)/\j7 w' a cap r (x*y))/\Below w.heap.size w w':=by
 by_cases p:l.length=0
 . have hx:=(G.num.eV oO).2 p;have q1:((l.length:Int) == 0)=true:=by simp[p]
   have M:O (x=0):=hx;clear p hx;go_enter func134,ntmps134;go_wp2;go_ret;exact⟨⟨none,0,[],rfl,by rw[M.o,qP];exact⟨qS _ _,rH _,sS⟩⟩,ac _ _⟩
 by_cases q:m.length=0
 .
  have hy:=(H.num.eV oO).2 q;have q1:((l.length:Int) == 0)=false:=by rw[aJ];omega
  have q2:((m.length:Int) == 0)=true:=by simp[q]
  have M:O (y=0):=hy;clear q hy;go_enter func134,ntmps134;go_wp2;go_ret;exact⟨⟨none,0,[],rfl,by rw[M.o,fH];exact⟨qS _ _,rH _,sS⟩⟩,ac _ _⟩
 have q1:((l.length:Int) == 0)=false:=by rw[aJ];omega
 have q2:((m.length:Int) == 0)=false:=by rw[aJ];omega
 have N:∀w,(Instr.makeSlice 112 (.int .i64 ((l.length:Int)+(m.length:Int))) (.int .i64 ((l.length:Int)+(m.length:Int)))).run prog w=.ok (.slice (some ⟨w.heap.size,0,none⟩) (l.length+m.length) (l.length+m.length)) (w.alloc (.cells (dA .u32 (zeros (l.length+m.length))) 213)):=
  fun w=>CO _ (l.length+m.length) oO oO w
 go_enter func134,ntmps134;go_wp2;clear N;go_loopw [6] (fun i wr=>∃(k:Nat)(rs:Vy),k<=l.length/\i=.int .i64 k/\jf .u32 213 wr w.heap.size rs/\rs.length=l.length+m.length/\Small 4294967296 rs/\
  val 4294967296 (rs.take (k+m.length))=val 4294967296 (l.take k)*y/\Below w.heap.size w wr) (fun i _=>l.length - (intOf i).toNat)
 case atStart=>exact⟨0,zeros (l.length+m.length),oO,rfl,mn _ _ _ _,uC _,wZ _ _ oO,by rw[show (zeros (l.length+m.length)).take (0+m.length)=zeros m.length from by unfold zeros;simp,Ip];simp[val],bR.alloc lZ _⟩
 case round=>
  obtain⟨k,rs,hk,rfl,hB,g,h,B,hb⟩:=hrel;have v:O (val 4294967296 (rs.take (k+m.length))=val 4294967296 (l.take k)*y):=B;have f:O (rs.length=l.length+m.length):=g;have A:O (jf .u32 213 wr w.heap.size rs):=hB;have n:O (Small 4294967296 rs):=h;clear B h;by_cases P:k<l.length
  .
   obtain⟨b,ae,rfl,Q,C⟩:=G.row.cell k P;obtain⟨d,I⟩:=nm (l.getD k 0);have R:d<4294967296:=by rw[<-I];exact G.num.small.getD oO k
   rw[I]at C;have H1:O (l.getD k 0=d):=I;clear I g hB;go_wp2;have D:O (Bl w wr):=hb;clear hb;go_loopw [7,8] (fun c j wr=>∃(i S:Nat)(rs:Vy),i<=m.length/\S<4294967296/\c=.int .u64 S/\j=.int .i64 i/\jf .u32 213 wr w.heap.size rs/\rs.length=l.length+m.length/\Small 4294967296 rs/\
    val 4294967296 (rs.take (k+m.length))+4294967296 ^ (k+i)*S=val 4294967296 (l.take k)*y+4294967296 ^ k*(d*val 4294967296 (m.take i))/\Below w.heap.size w wr) (fun _ j _=>m.length - (intOf j).toNat)
   case atStart=>exact⟨0,0,rs,oO,oO,rfl,rfl,A.o,f.o,n.o,by rw[v.o];simp[val],D.o⟩
   case round=>
    clear A f n v D;obtain⟨i,c,rs,hi,hc,rfl,rfl,hB,g,h,B,hb⟩:=hrel;have v:O (val 4294967296 (rs.take (k+m.length))+4294967296 ^ (k+i)*c=val 4294967296 (l.take k)*y+4294967296 ^ k*(d*val 4294967296 (m.take i))):=B;have f:O (rs.length=l.length+m.length):=g;have A:O (jf .u32 213 wr w.heap.size rs):=hB;have n:O (Small 4294967296 rs):=h;clear B;by_cases E:i<m.length
    .
     obtain⟨b',aa,rfl,T,s⟩:=H.row.cell i E;obtain⟨e,J⟩:=nm (m.getD i 0);have U:e<4294967296:=by rw[<-J];exact H.num.small.getD oO i
     rw[J]at s;have ab:=ce hb Q C;have ad:=ce hb T s;have H2:O (m.getD i 0=e):=J;obtain⟨z,u⟩:=nm (rs.getD (k+i) 0);have af:z<4294967296:=by rw[<-u];exact h.getD oO _
     have g1:=hB.free (k+i);have V:=hB.cell (k+i) oO;rw[u]at V;have HZ:O (rs.getD (k+i) 0=z):=u;clear J s u hB g h;have hp:=IF R U;obtain⟨t,K⟩:∃t:Nat,t=d*e:=⟨_,rfl⟩;have ag:(d:Int)*(e:Int)=(t:Int):=by rw[K];simp
     have ah:t<=18446744065119617025:=by rw[K];exact hp
     have HT:O (t=d*e):=K;clear K hp;have ev:O (((c:Int)+(t+z)) % 4294967296=(((c+(t+z)) % 4294967296:Nat):Int)):=by unfold O;omega
     have ec:O (((c:Int)+(t+z)) / 4294967296=(((c+(t+z)) / 4294967296:Nat):Int)):=by unfold O;omega
     go_wp2;go_region
     all_goals
      go_wp2;go_roundw
      case rel=> rw[ev.o,ec.o];exact⟨i+1,(c+(t+z)) / 4294967296,rs.set (k+i) ((c+(t+z)) % 4294967296),oO,oO,rfl,by go_num,(A.o.set (k+i) _).drew,by rw[aQ];exact f.o,n.o.set _ oO,Yu _ k i d e t _ c z _ rs m HT.o H2.o (oB f.o) oO HZ.o v.o,(hb.setCell lZ _).drew⟩
      case measure=>exact mI
    . obtain⟨z,u⟩:=nm (rs.getD (k+m.length) 0);have g1:=hB.free (k+m.length);have V:=hB.cell (k+m.length) oO;rw[u]at V;clear u hB g h;have hv2:val 4294967296 ((rs.set (k+m.length) c).take (k+1+m.length))=val 4294967296 (l.take (k+1))*y:=by have W:i=m.length:=oO;have F:=v.o;rw[W,dB,H.num.eq]at F;exact XN _ k d c y m.length rs l H1.o (oB f.o) F
      have X:O (val 4294967296 ((rs.set (k+m.length) c).take (k+1+m.length))=val 4294967296 (l.take (k+1))*y):=hv2;clear hv2;go_wp2;go_roundw
      case rel=>exact⟨k+1,rs.set (k+m.length) c,oO,by go_num,A.o.set (k+m.length) c,by rw[aQ];exact f.o,n.o.set _ hc,X.o,hb.setCell lZ _⟩
      case measure=>exact mI
  . have Y:val 4294967296 rs=x*y:=by have W:k=l.length:=oO;have F:=v.o;rw[W,dB,bL oO,G.num.eq]at F;exact F
    clear g hB;go_wp2_with fail;refine(B9 w.heap.size (l.length+m.length) (l.length+m.length) (x*y) rs _ A.o f.o n.o lZ L Y).mono ?_;rintro e w1 ⟨⟨a,cap,r,rfl,hu⟩,rfl⟩;go_wp2;go_ret;exact⟨⟨a,cap,r,rfl,hu⟩,hb⟩
def Ye{k:AM}{base:Nat}{e:Vr}{v:Ac}(h:w.ownsRow base e 1 v l.length (l.map (fun n:Nat=>Value.int k n))):
 ∃a cap,v=.slice a l.length cap/\Row k w a cap l:=by
 obtain⟨u,o⟩:=h;rcases o with ⟨rfl,p⟩|⟨g,cap,b,rfl,x,d,f,q,r,j⟩
 . have:=jV.1 p;subst this;exact⟨none,0,rfl,qS k w⟩
 .
  have c:g<w.heap.size:=by apply bC;intro y;rw[dX oO]at d;cases d
  refine⟨_,cap,rfl,f,.inr ⟨g,0,rfl,c⟩,fun i s=>⟨g,0,rfl,c,?_⟩⟩;have t:b[i]?=some (.int k ((l.getD i 0:Nat):Int)):=by
   have m:(b.toList.take (l.length*1))[i]?=(l.map (fun n:Nat=>Value.int k n))[i]?:=by rw[j]
   rw[aW oO,dF]at m;rw[m];simp[s]
  simp[World.cell?,d,t]
def xA(b a j:Nat):(⟨b,a,none⟩:Addr).add j=⟨b,a+j,none⟩:=by
 unfold Addr.add
 split
 . rename_i h;subst h;rfl
 . rfl
def Yd(x:Nat):val 4294967296 [x % 4294967296,x / 4294967296]=x:=by simp only[val];omega
def DG(X:Int)(w:Vz)(g:0<=X)(i:X<18446744073709551616):
 Calls prog 135 #[.int .u64 X] w fun e w'=>(∃a cap r,e=.returned (.slice a r.length cap)/\j7 w' a cap r X.toNat/\r.length<=2)/\Below w.heap.size w w':=by
 obtain⟨x,rfl⟩:=jX g;rw[fC];go_enter func135,ntmps135;go_wp2_with fail;have b:(x:Int) % 4294967296=((x % 4294967296:Nat):Int):=oO;have c:(x:Int) / 4294967296=((x / 4294967296:Nat):Int):=oO;have hB:jf .u32 213 (w.alloc (Obj.cells #[Value.int IntKind.u32 ((x:Int) % 4294967296),Value.int IntKind.u32 ((x:Int) / 4294967296)] 213)) w.heap.size [x % 4294967296,x / 4294967296]:=by rw[b,c];exact mn .u32 213 w [x % 4294967296,x / 4294967296]
 clear b c;refine(B9 w.heap.size 2 2 x [x % 4294967296,x / 4294967296] _ hB rfl ?_ lZ oO (Yd x)).mono ?_
 . intro d h;simp at h;omega
 rintro e w1 ⟨⟨a,cap,r,rfl,f⟩,rfl⟩;go_wp2;go_ret;exact⟨⟨a,cap,r,rfl,f,f.num.fG oO oO⟩,bR.alloc lZ _⟩
def IQ(a:Vx)(cap:Nat)(l:Vy)(x:Nat)(w:Vz)(h:j7 w a cap l x):
 Calls prog 172 #[.slice a l.length cap] w fun e w'=>(∃a cap,e=.returned (.slice a l.length cap)/\j7 w' a cap l x)/\Below w.heap.size w w':=by
 obtain⟨s,t,o,p,hz2⟩:=me Tryz.A6;have v:=h.short;rcases h.row.shape with ⟨rfl,rfl⟩|⟨b,g,rfl,hb⟩
 . have hl:=h.row.fit;have:l= []:=jV.1 oO;subst this;go_enter func172,ntmps172;go_wp2_with (at_builtin;refine wpList_append_own_none rfl _ _ 112 rfl w.heap.size 213 s 1 underlying112 t _ 0 [] rfl (pH _ _ _ _) rfl ?_);go_ret;exact⟨⟨none,0,rfl,h⟩,ac _ _⟩
 .
  go_enter func172,ntmps172;go_wp2_with (at_builtin;refine wpList_append_own _ rfl _ _ 112 rfl w.heap.size 213 s (.int .u32 0) 1 4 underlying112 t o p hz2 rfl dD _ 0 [] rfl (pH _ _ _ _) ⟨b,g,none⟩ l.length cap (l.map (fun n:Nat=>Value.int .u32 n)) rfl sS ?c1 ?c2 ?c3 ?c4 lZ ?_)
  case c1=> intro j u y;obtain⟨q,r⟩:=gZ y;have c:j<l.length:=sU q;obtain⟨z,i,A,_,B⟩:=h.row.cell j c;obtain⟨rfl,rfl⟩:b=z/\g=i:=sU A;rw[xA,B,<-r];simp[c]
  case c2=>intro u r;obtain⟨n,_,rfl⟩:=bZ.1 r;rfl
  case c3=>unfold maxLen;omega
  case c4=>omega
  . intro D w1 d f _;obtain⟨C,cap',rfl,m⟩:=Ye d;clear d;go_wp2;go_ret;exact⟨⟨C,cap',rfl,m,h.num,v⟩,bR.grown f lZ (fun k hk=>by simp[Value.ownBlock]at hk)⟩
def yO(x y:Int)(a b i:Nat)(c:x=((2 ^ i*a:Nat):Int))(d:y=(b:Int))(hb:b<2 ^ i)(e:2 ^ i*a+b<18446744073709551616):bits .or .u64 x y=((2 ^ i*a+b:Nat):Int):=by subst c;subst d;rw[u64_or_nat _ _ (by omega) (by omega),Nat.two_pow_add_eq_or_of_lt hb]
def xT(x y:Int)(a b i:Nat)(c:x=((2 ^ i*a:Nat):Int))(d:y=(b:Int))(hb:b<2 ^ i)(e:2 ^ i*a+b<18446744073709551616):bits .or .u64 y x=((2 ^ i*a+b:Nat):Int):=by subst c;subst d;rw[u64_or_nat _ _ (by omega) (by omega),Nat.or_comm,Nat.two_pow_add_eq_or_of_lt hb]
def Gr(x y:Int)(a b i:Nat)(c:x=((2 ^ i*a:Nat):Int))(d:y=(b:Int))(hb:b<2 ^ i)(e:2 ^ i*a+b<4294967296):bits .or .u32 y x=((2 ^ i*a+b:Nat):Int):=by subst c;subst d;rw[u32_or_nat _ _ (by omega) (by omega),Nat.or_comm,Nat.two_pow_add_eq_or_of_lt hb]
def Qg(t:Nat)(h:0<t):nb (t / 2)+1=nb t:=by
 unfold nb;by_cases a:t=1
 · subst a;rfl
 ·
  rw[if_neg (by omega),if_neg (by omega)];have:t.log2=(t / 2).log2+1:=by rw[Nat.log2_def,if_pos (by omega)]
  omega
def Yc(k b a:Nat)(h:b<2 ^ k)(c:0<a):nb (b+2 ^ k*a)=k+nb a:=by
 have e:=LD a;have f:nb (b+2 ^ k*a)≤k+nb a:=by apply nb_le;rw[Nat.pow_add];have:=Nat.mul_le_mul_left (2 ^ k) (show a+1≤2 ^ nb a by omega);rw[Nat.mul_add]at this;omega
 have g:k+nb a≤nb (b+2 ^ k*a):=by
  have d:2 ^ (nb a - 1)≤a:=PG (by have:=IJ c;omega);have i:2 ^ (k+(nb a - 1))≤b+2 ^ k*a:=by rw[Nat.pow_add];have:=Nat.mul_le_mul_left (2 ^ k) d;omega
  apply Classical.byContradiction;intro j;have l:=LD (b+2 ^ k*a);have m:2 ^ nb (b+2 ^ k*a)≤2 ^ (k+(nb a - 1)):=Nat.pow_le_pow_right (by omega) (by omega);omega
 omega
def Num.F3{q:Nat}{l:List Nat}(h:Num (2 ^ q) l n)(hl:0<l.length):nb n=q*(l.length - 1)+nb (l.getD (l.length - 1) 0):=by
 have c:0<l.getD (l.length - 1) 0:=by
  rcases h.trim with rfl|d
  · simp at hl
  · omega
 have e:=vv (2 ^ q) l (l.length - 1) (by omega);have a:=xb (2 ^ q) l (l.length - 1) (by omega);rw[show l.length - 1+1=l.length from by omega,List.drop_of_length_le (Nat.le_refl _)]at a;simp only[val,Nat.mul_zero,Nat.add_zero]at a;rw[h.eq,a,←Nat.pow_mul]at e;have b:=qi (Nat.pow_pos (by omega)) (h.small.take (l.length - 1));rw[List.length_take,Nat.min_eq_left (by omega),←Nat.pow_mul]at b;rw[e,Yc _ _ _ b c]
def Qf(B j d e r:Nat)(rs l:List Nat)(a:j<rs.length)(hl:j<l.length)(b:l.getD j 0=e)(h:val B (rs.drop (j+1))*d+r=val B (l.drop (j+1))):
 val B ((rs.set j ((B*r+e) / d)).drop j)*d+(B*r+e) % d=val B (l.drop j):=by
 rw[xb B l j hl,b,←h,GU _ j (by simp;omega),DE,List.drop_set_of_lt (by omega),List.getD_eq_getElem?_getD,List.getElem?_set_self a];have c:=Nat.div_add_mod (B*r+e) d;simp only[Option.getD_some,Nat.add_mul];rw[Nat.mul_comm d]at c;rw[Nat.mul_add,Nat.mul_assoc];omega
def LY(a:s<32):2 ^ s≤2147483648:=by have:=Nat.pow_le_pow_right (n:=2) (by omega) (show s≤31 by omega);exact this
def LX(a:s≤32):2 ^ s*2 ^ (32 - s)=4294967296:=by rw[←Nat.pow_add,show s+(32 - s)=32 from by omega]
def IP(d s:Nat)(a:s≤32):d*2 ^ s % 4294967296=2 ^ s*(d % 2 ^ (32 - s)):=by rw[←LX a,Nat.mul_comm d,Nat.mul_mod_mul_left]
def Yb(d s:Nat)(a:s≤32):d*2 ^ s % 4294967296+2 ^ s≤4294967296:=by rw[IP d s a];have b:d % 2 ^ (32 - s)+1≤2 ^ (32 - s):=Nat.mod_lt _ (Nat.pow_pos (by omega));have c:=Nat.mul_le_mul_left (2 ^ s) b;rw[LX a,Nat.mul_add]at c;omega
def FM(n:Nat)(h:n<18446744073709551616):IntKind.u64.wrap (n:Int)=(n:Int):=by simp[IntKind.wrap,IntKind.signed,IntKind.bits];omega
def Ya(d s z:Nat)(a:s<32)(b:d<4294967296)(c:z<2 ^ s):
 bits .or .u32 (z:Int) (IntKind.u64.wrap ((d:Int)*2 ^ (s % 32)) % 4294967296)=((d*2 ^ s % 4294967296+z:Nat):Int)∧
 bits .or .u32 0 (IntKind.u64.wrap ((d:Int)*2 ^ (s % 32)) / 4294967296 % 4294967296)=((d*2 ^ s / 4294967296:Nat):Int)∧
 d*2 ^ s % 4294967296+z<4294967296∧d*2 ^ s / 4294967296<2 ^ s:=by
 have e:=LY a;have h:d*2 ^ s≤4294967295*2147483648:=Nat.mul_le_mul (by omega) e;have i:=Yb d s (by omega);have f:d*2 ^ s / 4294967296<2 ^ s:=by rw[Nat.div_lt_iff_lt_mul (by omega),Nat.mul_comm (2 ^ s)];exact Nat.mul_lt_mul_of_pos_right b (Nat.pow_pos (by omega))
 have g:IntKind.u64.wrap ((d:Int)*2 ^ (s % 32))=((d*2 ^ s:Nat):Int):=by
  rw[Nat.mod_eq_of_lt a];have:((d:Int)*2 ^ s)=((d*2 ^ s:Nat):Int):=by simp
  rw[this,FM _ (by omega)]
 rw[g];refine⟨?_,?_,by omega,f⟩
 · rw[Gr (((d*2 ^ s:Nat):Int) % 4294967296) (z:Int) (d % 2 ^ (32 - s)) z s (by rw[←IP d s (by omega)];omega) rfl c (by rw[←IP d s (by omega)];omega),←IP d s (by omega)]
 ·
  rw[show (((d*2 ^ s:Nat):Int) / 4294967296 % 4294967296)=((d*2 ^ s / 4294967296:Nat):Int) from by omega];have:=u32_or_nat 0 (d*2 ^ s / 4294967296) (by omega) (by omega);rw[Nat.zero_or]at this;exact this
def X9(k d s z:Nat)(rs l:List Nat)(hk:k+1<rs.length)(a:l.getD k 0=d)(b:rs.getD k 0=z)(h:val 4294967296 (rs.take (k+1))=val 4294967296 (l.take k)*2 ^ s):
 val 4294967296 (((rs.set k (d*2 ^ s % 4294967296+z)).set (k+1) (d*2 ^ s / 4294967296)).take (k+1+1))=val 4294967296 (l.take (k+1))*2 ^ s:=by
 rw[take_set _ _ _ (by simp;omega),wu,List.length_take,Nat.min_eq_left (by simp;omega),take_set _ _ _ (by omega),wu,List.length_take,Nat.min_eq_left (by omega)];rw[sW,b]at h;rw[sW _ l,a,Nat.add_mul,←h,Nat.pow_succ,Nat.mul_add,Nat.mul_assoc (4294967296 ^ k) d];have e:=Nat.mod_add_div (d*2 ^ s) 4294967296;have c:4294967296 ^ k*(d*2 ^ s % 4294967296+4294967296*(d*2 ^ s / 4294967296))=4294967296 ^ k*(d*2 ^ s):=by rw[e]
 rw[Nat.mul_add,←Nat.mul_assoc]at c;omega
def X7(d e s:Nat)(k:s<32)(l:d<4294967296):((4294967296*e+d) / 2 ^ s % 4294967296)*2 ^ s+d % 2 ^ s=d+4294967296*(e % 2 ^ s):=by
 have b:0<2 ^ s:=Nat.pow_pos (by omega);have a:=LX (s:=s) (by omega);generalize hP:2 ^ s=p at*;generalize hT:2 ^ (32 - s)=t at*;have c:(4294967296*e+d) / p=t*e+d / p:=by rw[←a,Nat.mul_assoc,Nat.mul_add_div b]
 have f:=Nat.div_add_mod e p;have g:t*e=4294967296*(e / p)+t*(e % p):=by
  conv=>lhs;rw[←f]
  rw[Nat.mul_add,←Nat.mul_assoc,Nat.mul_comm t p,a]
 have m:d / p<t:=by rw[Nat.div_lt_iff_lt_mul b,Nat.mul_comm];omega
 have h:e % p+1≤p:=Nat.mod_lt _ b;have i:=Nat.mul_le_mul_left t h;rw[Nat.mul_add,Nat.mul_comm t p,a]at i;rw[c,g,Nat.add_assoc,Nat.mul_add_mod,Nat.mod_eq_of_lt (by omega),Nat.add_mul];have j:=Nat.div_add_mod d p;rw[Nat.mul_comm p]at j;have n:t*(e % p)*p=4294967296*(e % p):=by rw[Nat.mul_comm (t*(e % p)) p,←Nat.mul_assoc,a]
 omega
def PP(k d e s m0:Nat)(rs l:List Nat)(c:s<32)(a:d<4294967296)(hk:k<rs.length)(b:l.getD k 0=d)(f:l.getD (k+1) 0=e)(h:val 4294967296 (rs.take k)*2 ^ s+m0=val 4294967296 (l.take k)+4294967296 ^ k*(l.getD k 0 % 2 ^ s)):
 val 4294967296 ((rs.set k ((4294967296*e+d) / 2 ^ s % 4294967296)).take (k+1))*2 ^ s+m0=val 4294967296 (l.take (k+1))+4294967296 ^ (k+1)*(l.getD (k+1) 0 % 2 ^ s):=by
 have g:=X7 d e s c a;rw[take_set _ _ _ hk,wu,List.length_take,Nat.min_eq_left (by omega),sW _ l,b,f,Nat.add_mul,Nat.pow_succ];rw[b]at h;have i:4294967296 ^ k*(((4294967296*e+d) / 2 ^ s % 4294967296)*2 ^ s+d % 2 ^ s)=4294967296 ^ k*(d+4294967296*(e % 2 ^ s)):=by rw[g]
 rw[Nat.mul_add,Nat.mul_add,←Nat.mul_assoc,←Nat.mul_assoc]at i;omega
def PO(v s:Nat)(a:s<32):(v:Int) / 2 ^ (s % 32) % 4294967296=((v / 2 ^ s % 4294967296:Nat):Int):=by rw[Nat.mod_eq_of_lt a];simp
theorem FN(a:Vx)(cap:Nat)(l:Vy)(x:Nat)(w:Vz)(h:j7 w a cap l x)(hl:l.length<=2):
 Calls prog 216 #[.slice a l.length cap] w fun e w'=>e=.returned (.int .u64 x)/\w'=w:=by
 have c:=h.num.eq
 match l,hl,h,c with
 | [],_,h,c=> simp only[val]at c;subst c;go_enter func216,ntmps216;go_wp2;go_ret;exact⟨rfl,rfl⟩
 | [d],_,h,c=> obtain⟨b,g,rfl,j,f⟩:=h.row.cell 0 sS;have m:=h.num.small d sS;simp[val]at c f;subst c;clear h;go_enter func216,ntmps216;go_wp2;go_ret;exact⟨rfl,rfl⟩
 | [d,e],_,h,c=>
   obtain⟨b,g,rfl,j,f⟩:=h.row.cell 0 sS;obtain⟨o,i,n,p,k⟩:=h.row.cell 1 sS;obtain⟨rfl,rfl⟩:b=o/\g=i:=sU n;have m:=h.num.small d sS;have r:=h.num.small e sS;simp[val]at c f k;have s:O (d+4294967296*e=x):=c;have q:bits .or .u64 (d:Int) ((e:Int)*4294967296)=(x:Int):=by rw[xT ((e:Int)*4294967296) (d:Int) e d 32 oO rfl m oO];omega
   clear h n c;go_enter func216,ntmps216;go_wp2;go_ret;exact⟨rfl,rfl⟩
def Yj(a:Vx)(cap d:Nat)(l:Vy)(x:Nat)(w:Vz)(h:j7 w a cap l x)(f:0<d)(hd:d<4294967296):
 Calls prog 173 #[.slice a l.length cap,.int .u32 d] w fun e w'=>(∃a cap r,e=.returned (.tuple #[.slice a r.length cap,.int .u32 (x % d:Nat)])/\j7 w' a cap r (x / d))/\Below w.heap.size w w':=by
 have s1:=h.short;have C:=
  fun w=>CO _ l.length rfl oO w
 go_enter func173,ntmps173;go_wp2;clear C;go_loopw [7,8] (fun r i wr=>∃(k c:Nat)(rs:Vy),k<=l.length/\c<d/\r=.int .u64 c/\i=.int .i64 ((k:Int) - 1)/\jf .u32 213 wr w.heap.size rs/\rs.length=l.length/\Small 4294967296 rs/\
  val 4294967296 (rs.drop k)*d+c=val 4294967296 (l.drop k)/\Below w.heap.size w wr) (fun _ i _=>(intOf i+1).toNat)
 case atStart=>exact⟨l.length,0,zeros l.length,aV _,f,rfl,rfl,mn _ _ _ _,uC _,wZ _ _ oO,by rw[dG (by rw[uC];exact aV _),dG lZ];simp[val],bR.alloc lZ _⟩
 case round=>
  obtain⟨k,r,rs,hk,I,rfl,rfl,hB,m,v,J,hb⟩:=hrel;have K:O (val 4294967296 (rs.drop k)*d+r=val 4294967296 (l.drop k)):=J;have n:O (rs.length=l.length):=m;have L:O (jf .u32 213 wr w.heap.size rs):=hB;have y:O (Small 4294967296 rs):=v;clear J v;by_cases S:k=0
  . subst S;have A:=K.o;simp only[iP,h.num.eq]at A;have p:val 4294967296 rs=x / d:=by rw[<-A,bV,om f,jG I,dV]
    have M:x % d=r:=by rw[<-A,bV,qB,kH I]
    have T:O (x % d=r):=M;clear m hB A M;have U:O (val 4294967296 rs=x / d):=p;clear p;go_wp2_with fail;refine(B9 w.heap.size l.length l.length (x / d) rs _ L.o n.o y.o lZ oO U.o).mono ?_;rintro e w1 ⟨⟨a,cap,r,rfl,V⟩,rfl⟩;go_wp2;go_ret2;exact⟨⟨a,cap,r,by rw[T.o];rfl,V⟩,hb⟩
  .
   obtain⟨j,rfl⟩:∃j,k=j+1:=⟨k - 1,oO⟩;obtain⟨b,W,rfl,D,t⟩:=h.row.cell j oO;obtain⟨e,B⟩:=nm (l.getD j 0);have E:e<4294967296:=by rw[<-B];exact h.num.small.getD oO j
   rw[B]at t;have N:=ce hb D t;have X:O (l.getD j 0=e):=B;obtain⟨z,P⟩:=nm (rs.getD j 0);have g1:=hB.free j;have Y:=hB.cell j oO;rw[P]at Y;clear B t P hB m;have Q:((j+1:Nat):Int) - 1=(j:Int):=oO;rw[Q];clear Q;have Z:((d:Int) == 0)=false:=by rw[aJ];omega
   obtain⟨s,R⟩:=nm (4294967296*r+e);have aa:bits .or .u64 ((r:Int)*4294967296) (e:Int)=(s:Int):=by rw[yO ((r:Int)*4294967296) (e:Int) r e 32 oO rfl E oO];omega
   obtain⟨q,p⟩:=nm (s / d);obtain⟨c,g⟩:∃c,s % d=c:=⟨_,rfl⟩;have F:q<4294967296:=by rw[<-p,fL f];have:=cR 4294967296 (show r+1<=d by omega);omega
   have G:c<d:=by rw[<-g];exact eU _ f
   have u:=Qf 4294967296 j d e r rs l (oB n.o) oO X.o K.o;rw[R,p,g]at u;have t1:(s:Int) / (d:Int)=(q:Int):=by rw[<-p];simp
   have t2:(s:Int) % (d:Int)=(c:Int):=by rw[<-g];simp
   have ab:s<18446744073709551616:=oO;have H:O (val 4294967296 ((rs.set j q).drop j)*d+c=val 4294967296 (l.drop j)):=u;clear p g u R;go_wp2;go_roundw
   case rel=>exact⟨j,c,rs.set j q,oO,G,by rw[t2],rfl,L.o.set j q,by rw[aQ];exact n.o,y.o.set j F,H.o,hb.setCell lZ _⟩
   case measure=>simp[intOf]
def Yi(a:Vx)(cap:Nat)(l:Vy)(x:Nat)(w:Vz)(h:j7 w a cap l x):
 Calls prog 217 #[.slice a l.length cap] w fun e w'=>e=.returned (.int .i64 (nb x))/\w'=w:=by
 have B:=h.short;by_cases g:l.length=0
 . have C:=(h.num.eV oO).2 g;have r:((l.length:Int) == 0)=true:=by simp[g]
   subst C;clear g;go_enter func217,ntmps217;go_wp2;go_ret;exact⟨rfl,rfl⟩
 .
  have r:((l.length:Int) == 0)=false:=by rw[aJ];omega
  have c:=Num.F3 (q:=32) h.num oO;obtain⟨b,D,rfl,E,d⟩:=h.row.cell (l.length - 1) oO;obtain⟨t,i⟩:=nm (l.getD (l.length - 1) 0);have k:t<4294967296:=by rw[<-i];exact h.num.small.getD oO _
  have F:nb t<=32:=nb_le oO;rw[i]at d c;have p:O (nb x=32*(l.length - 1)+nb t):=c;clear i c;obtain⟨j,s⟩:∃j,l.length=j+1:=⟨l.length - 1,oO⟩;rw[s]at d p r B ⊢;clear s g;simp only[gW]at d p;go_enter func217,ntmps217;go_wp2;go_loop [3,4] (fun n v=>∃m u:Nat,nb u+m=nb t/\u<4294967296/\n=.int .i64 m/\v=.int .u32 u) (fun n v=>nb (intOf v).toNat)
  case atStart=>exact⟨0,t,rfl,k,rfl,rfl⟩
  case round=>
   obtain⟨m,u,f,G,rfl,rfl⟩:=hrel;have y:O (nb u+m=nb t):=f;have z:m<=32:=oO;clear f;by_cases H:u=0
   . subst H;have I:(((0:Nat):Int) != 0)=false:=sS;go_wp2;go_ret;refine⟨?_,rfl⟩;have A:=y.o;have J:=p.o;rw[Yx]at A;exact congrArg (fun n:Int=>Ending.returned (.int .i64 n)) oO
   .
    have I:((u:Int) != 0)=true:=by rw[jk];omega
    go_wp2;go_round
    case rel=>exact⟨m+1,u / 2,by have:=Qg u oO;have:=y.o;omega,oO,by go_num,congrArg (Value.int IntKind.u32) oO⟩
    case measure=>
     have A:=Qg u oO
     show nb (((u:Int) / 2).toNat)<nb ((u:Int).toNat)
     rw[show ((u:Int) / 2).toNat=u / 2 from by omega,fC];omega
def Qj(a:Vx)(cap s:Nat)(l:Vy)(x:Nat)(w:Vz)(h:j7 w a cap l x)(C:s<32)(K:0<l.length)(hl:l.length<1099511627776):
 Calls prog 218 #[.slice a l.length cap,.int .u64 s] w fun e w'=>(∃a cap r,e=.returned (.slice a r.length cap)/\j7 w' a cap r (x*2 ^ s))/\Below w.heap.size w w':=by
 have q1:((l.length:Int) == 0)=false:=by rw[aJ];omega
 have L:(s:Int) / 32=0:=oO;have M:(s:Int) % 32=s:=oO;have u:∀w,(Instr.makeSlice 112 (.int .i64 ((l.length:Int)+1)) (.int .i64 ((l.length:Int)+1))).run prog w=.ok (.slice (some ⟨w.heap.size,0,none⟩) (l.length+1) (l.length+1)) (w.alloc (.cells (dA .u32 (zeros (l.length+1))) 213)):=
  fun w=>CO _ (l.length+1) oO oO w
 go_enter func218,ntmps218;go_wp2;clear u L M;go_loopw [8] (fun i wr=>∃(k:Nat)(rs:Vy),k<=l.length/\i=.int .i64 k/\jf .u32 213 wr w.heap.size rs/\rs.length=l.length+1/\Small 4294967296 rs/\rs.getD k 0<2 ^ s/\(∀j,k<j->rs.getD j 0=0)/\
  val 4294967296 (rs.take (k+1))=val 4294967296 (l.take k)*2 ^ s/\Below w.heap.size w wr) (fun i _=>l.length - (intOf i).toNat)
 case atStart=>exact⟨0,zeros (l.length+1),oO,rfl,mn _ _ _ _,uC _,wZ _ _ oO,by rw[EX];exact gU oO,fun j _=>EX _ j,by rw[sW,EX];simp[val],bR.alloc lZ _⟩
 case round=>
  obtain⟨k,rs,hk,rfl,hB,f,n,c,hz2,D,hb⟩:=hrel;have E:O (val 4294967296 (rs.take (k+1))=val 4294967296 (l.take k)*2 ^ s):=D;have g:O (rs.length=l.length+1):=f;have F:O (jf .u32 213 wr w.heap.size rs):=hB;have p:O (Small 4294967296 rs):=n;clear D n;by_cases v:k<l.length
  .
   obtain⟨b,N,rfl,y,m⟩:=h.row.cell k v;obtain⟨d,t⟩:=nm (l.getD k 0);have A:d<4294967296:=by rw[<-t];exact h.num.small.getD oO k
   rw[t]at m;have G:=ce hb y m;have g1:=hB.free k;have P:=hB.cell k oO;have g3:=hB.free (k+1);have Q:=hB.cell (k+1) oO;rw[hz2 (k+1) oO]at Q;obtain⟨z,B⟩:=nm (rs.getD k 0);rw[B]at P c;have H:=Ya d s z C A c;have I:=X9 k d s z rs l oO t B E.o;have R:O (∀j,k<j->rs.getD j 0=0):=hz2;have S:O (bits .or .u32 (z:Int) (IntKind.u64.wrap ((d:Int)*2 ^ (s % 32)) % 4294967296)=((d*2 ^ s % 4294967296+z:Nat):Int)/\
    bits .or .u32 0 (IntKind.u64.wrap ((d:Int)*2 ^ (s % 32)) / 4294967296 % 4294967296)=((d*2 ^ s / 4294967296:Nat):Int)/\
    d*2 ^ s % 4294967296+z<4294967296/\d*2 ^ s / 4294967296<2 ^ s):=H
   have T:O (val 4294967296 (((rs.set k (d*2 ^ s % 4294967296+z)).set (k+1) (d*2 ^ s / 4294967296)).take (k+1+1))=val 4294967296 (l.take (k+1))*2 ^ s):=I;clear t m B hB f c hz2 H I;go_wp2;go_roundw
   case rel=>
    obtain⟨U,V,W,X⟩:=S.o;rw[U,V];have hp:=LY C;refine⟨k+1,(rs.set k (d*2 ^ s % 4294967296+z)).set (k+1) (d*2 ^ s / 4294967296),oO,by go_num,(F.o.set k _).set (k+1) _,by rw[aQ,aQ];exact g.o,(p.o.set k W).set (k+1) oO,?_,fun j hj=>?_,T.o,(hb.setCell lZ _).setCell lZ _⟩
    . rw[DB _ _ _ (by rw[aQ,g.o];omega)];exact X
    . rw[getD_set_ne _ _ _ _ oO,getD_set_ne _ _ _ _ oO];exact R.o j oO
   case measure=>exact mI
  . have q:val 4294967296 rs=x*2 ^ s:=by have Y:k=l.length:=oO;have J:=E.o;rw[Y,dB,bL oO,h.num.eq]at J;exact J
    have Z:O (val 4294967296 rs=x*2 ^ s):=q;clear f hB q c hz2;go_wp2_with fail;refine(B9 w.heap.size (l.length+1) (l.length+1) (x*2 ^ s) rs _ F.o g.o p.o lZ oO Z.o).mono ?_;rintro e w1 ⟨⟨a,cap,r,rfl,hu⟩,rfl⟩;go_wp2;go_ret;exact⟨⟨a,cap,r,rfl,hu⟩,hb⟩
def Yh(a:Vx)(cap s:Nat)(l:Vy)(x:Nat)(w:Vz)(h:j7 w a cap l x)(C:s<32):
 Calls prog 219 #[.slice a l.length cap,.int .u64 s] w fun e w'=>(∃a cap r,e=.returned (.slice a r.length cap)/\j7 w' a cap r (x / 2 ^ s))/\Below w.heap.size w w':=by
 have s1:=h.short;have V:(s:Int) / 32=0:=oO;have W:(s:Int) % 32=s:=oO;by_cases f:l.length=0
 . have X:=(h.num.eV oO).2 f;subst X;rw[f];clear f;go_enter func219,ntmps219;go_wp2;go_ret;exact⟨⟨none,0,[],rfl,by rw[Nat.zero_div];exact⟨qS _ _,rH _,sS⟩⟩,ac _ _⟩
 have G:=
  fun w=>CO _ l.length rfl oO w
 go_enter func219,ntmps219;go_wp2;clear G V W;go_loopw [8] (fun i wr=>∃(k:Nat)(rs:Vy),k<=l.length/\i=.int .i64 k/\jf .u32 213 wr w.heap.size rs/\rs.length=l.length/\Small 4294967296 rs/\
  val 4294967296 (rs.take k)*2 ^ s+l.getD 0 0 % 2 ^ s=val 4294967296 (l.take k)+4294967296 ^ k*(l.getD k 0 % 2 ^ s)/\Below w.heap.size w wr) (fun i _=>l.length - (intOf i).toNat)
 case atStart=>exact⟨0,zeros l.length,oO,rfl,mn _ _ _ _,uC _,wZ _ _ oO,by simp[val],bR.alloc lZ _⟩
 case round=>
  obtain⟨k,rs,hk,rfl,hB,g,t,u,hb⟩:=hrel;have H:O (val 4294967296 (rs.take k)*2 ^ s+l.getD 0 0 % 2 ^ s=val 4294967296 (l.take k)+4294967296 ^ k*(l.getD k 0 % 2 ^ s)):=u;have c:O (rs.length=l.length):=g;have I:O (jf .u32 213 wr w.heap.size rs):=hB;have j:O (Small 4294967296 rs):=t;clear u t;by_cases J:k<l.length
  .
   obtain⟨b,K,rfl,L,m⟩:=h.row.cell k J;obtain⟨d,D⟩:=nm (l.getD k 0);have n:d<4294967296:=by rw[<-D];exact h.num.small.getD oO k
   rw[D]at m;have P:=ce hb L m;have g1:=hB.free k;have Y:=hB.cell k oO;obtain⟨z,Q⟩:=nm (rs.getD k 0);rw[Q]at Y;have R:O (l.getD k 0=d):=D;clear D m Q hB g;by_cases y:k+1<l.length
   .
    obtain⟨Z,A,E,M,p⟩:=h.row.cell (k+1) y;obtain⟨rfl,rfl⟩:b=Z/\K=A:=sU E;obtain⟨e,F⟩:=nm (l.getD (k+1) 0);have aa:e<4294967296:=by rw[<-F];exact h.num.small.getD oO _
    rw[F]at p;have S:=ce hb M p;have H2:O (l.getD (k+1) 0=e):=F;obtain⟨v,u⟩:=nm (4294967296*e+d);have ab:bits .or .u64 (d:Int) ((e:Int)*4294967296)=(v:Int):=by rw[xT ((e:Int)*4294967296) (d:Int) e d 32 oO rfl n oO];omega
    have ad:v<18446744073709551616:=oO;have H3:O (4294967296*e+d=v):=u;clear F p E u;have q:=PP k d e s (l.getD 0 0 % 2 ^ s) rs l C n (oB c.o) R.o H2.o H.o;rw[H3.o]at q;have N:O (val 4294967296 ((rs.set k (v / 2 ^ s % 4294967296)).take (k+1))*2 ^ s+l.getD 0 0 % 2 ^ s=val 4294967296 (l.take (k+1))+4294967296 ^ (k+1)*(l.getD (k+1) 0 % 2 ^ s)):=q;clear q;go_wp2;go_roundw
    case rel=> rw[PO v s C];exact⟨k+1,rs.set k (v / 2 ^ s % 4294967296),oO,by go_num,I.o.set k _,by rw[aQ];exact c.o,j.o.set k (eU _ oO),N.o,hb.setCell lZ _⟩
    case measure=>exact mI
   . have q:=PP k d 0 s (l.getD 0 0 % 2 ^ s) rs l C n (oB c.o) R.o (FJ l (k+1) oO) H.o;rw[fH,cC]at q;have N:O (val 4294967296 ((rs.set k (d / 2 ^ s % 4294967296)).take (k+1))*2 ^ s+l.getD 0 0 % 2 ^ s=val 4294967296 (l.take (k+1))+4294967296 ^ (k+1)*(l.getD (k+1) 0 % 2 ^ s)):=q;clear q;go_wp2;go_roundw
     case rel=> rw[PO d s C];exact⟨k+1,rs.set k (d / 2 ^ s % 4294967296),oO,by go_num,I.o.set k _,by rw[aQ];exact c.o,j.o.set k (eU _ oO),N.o,hb.setCell lZ _⟩
     case measure=>exact mI
  . have B:val 4294967296 rs=x / 2 ^ s:=by have E:k=l.length:=oO;have T:=H.o;have U:0<2 ^ s:=gU oO;rw[E,dB,bL oO,FJ l _ lZ,h.num.eq,JE,fH,dV]at T;rw[<-T,bV,om U,jG (eU _ U),dV]
    have HQ:O (val 4294967296 rs=x / 2 ^ s):=B;clear g hB B;go_wp2_with fail;refine(B9 w.heap.size l.length l.length (x / 2 ^ s) rs _ I.o c.o j.o lZ oO HQ.o).mono ?_;rintro e w1 ⟨⟨a,cap,r,rfl,hu⟩,rfl⟩;go_wp2;go_ret;exact⟨⟨a,cap,r,rfl,hu⟩,hb⟩
end Go.Proofs.YtfgclhpgdanmfaaGreatDoor
