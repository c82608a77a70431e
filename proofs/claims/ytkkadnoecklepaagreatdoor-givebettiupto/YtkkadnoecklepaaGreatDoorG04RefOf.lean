import Derived.Test.YtkkadnoecklepaaGreatDoorG03RatBag
import Derived.Deep.AppendLies
import Derived.Laws.BytesArg
import Derived.Lib.IndexMore
import Derived.Lib.Strings
import Derived.Lib.Split
import Derived.Shelf.Small.Wraps
import Derived.Shelf.Small.Bits
import Derived.Shelf.Strings.Prefix
import Derived.Shelf.Strings.Trim
import Derived.Shelf.Strings.SlTrimAscii
import Derived.Shelf.Strings.Cut
import Derived.Shelf.Strings.Split
import Derived.Shelf.Bits.Mul64
import Derived.Shelf.Spec.BitsCarry
import Derived.Test.YtkkadnoecklepaaGreatDoorProg
namespace Go.Proofs.YtkkadnoecklepaaGreatDoor
open Go.RowKit
open Go.Proofs.Tryz
set_option linter.unusedSimpArgs false
set_option linter.unusedVariables false
set_option maxHeartbeats 8000000
set_option maxRecDepth 1000000
theorem Qai(w:Vz):w.drew.heap.size=w.heap.size:=rfl
theorem Qst(i n r j k:Nat)(p q:Rat)(w:Vz)(s:(Thing.room i).holds w)(t:RatVal w n p)(u:RatVal w r q)(v:Fits p j)(x:Fits q k)(B:j+k<274877906000):
 Calls prog 83 #[.pointer (some ⟨i,0,none⟩),.pointer (some ⟨n,0,none⟩),.pointer (some ⟨r,0,none⟩)] w (RatOk w i (p*q)):=by
 have d:=Qcd p;have f:=Qcd q;obtain⟨g,y,b⟩:=Ib (Int.mul_pos d f) (Qgj p q) (Bag.two t u s v x);clear t u s v x d f;go_enter func83,ntmps83;go_wp2;go_region_held3 (fun _=>True) (trivial) (first
  |
   (go_at_call 82
    apply cM;apply Bag.mul (w0:=w);(focus(repeat(first|exact b.o|apply Bag.alloc|apply Bag.drew)));(focus(simp only[mem_less,List.mem_cons,List.not_mem_nil,or_false,Qai,World.size_alloc,true_or,or_true,true_and,and_true]<;>omega));(focus(repeat(first|exact mH|apply mT)));(focus(repeat(first|exact mH|apply mT)));omega;rintro e w1 ⟨rfl,a,c,l⟩;clear b;have b:=Hi a;clear a
    (try simp only[Qai,World.size_alloc] at c))
  |
   (go_at_call 80
    apply cM;apply Bag.den (w0:=w);(focus(repeat(first|exact b.o|apply Bag.alloc|apply Bag.drew)));(focus(repeat(first|exact mH|apply mT)));rintro e w1 ⟨b1,C,rfl,a,c⟩;clear b;have b:=Hi a;clear a
    (try simp only[Qai,World.size_alloc] at c))
  |
   (go_at_call 82
    apply cM;apply Bag.mul (w0:=w);(focus(repeat(first|exact b.o|apply Bag.alloc|apply Bag.drew)));(focus(simp only[mem_less,List.mem_cons,List.not_mem_nil,or_false,Qai,World.size_alloc,true_or,or_true,true_and,and_true]<;>omega));(focus(repeat(first|exact mH|apply mT)));(focus(repeat(first|exact mH|apply mT)));omega;rintro e w1 ⟨rfl,a,c,l⟩;clear b;have b:=Hi a;clear a
    (try simp only[Qai,World.size_alloc] at c))
  |
   (go_at_call 91
    apply cM;apply Bag.setFrac (w0:=w);(focus(repeat(first|exact b.o|apply Bag.alloc|apply Bag.drew)));(focus(repeat(first|exact mH|apply mT)));(focus(repeat(first|exact mH|apply mT)));(focus(repeat(first|exact mH|apply mT)));exact g.o;omega;omega;rintro e D h;have z:=Hi h;obtain⟨rfl,m,A⟩:=h
    clear b m A)
  )
 all_goals
  go_wp2;go_ret;rw[<-y.o];exact z.o
theorem Qgi(m r s j k:Nat)(p q:Rat)(w:Vz)(t:(Thing.room m).holds w)(u:RatVal w r p)(v:RatVal w s q)(x:Fits p j)(y:Fits q k)(D:j+k<274877906000):
 Calls prog 73 #[.pointer (some ⟨m,0,none⟩),.pointer (some ⟨r,0,none⟩),.pointer (some ⟨s,0,none⟩)] w (RatOk w m (p+q)):=by
 have h:=Qcd p;have i:=Qcd q;obtain⟨f,A,b⟩:=Ib (Int.mul_pos h i) (Qgk p q) (Bag.two u v t x y);clear u v t x y h i;go_enter func73,ntmps73;go_wp2;go_region_held3 (fun _=>True) (trivial) (first
  |
   (go_at_call 82
    apply cM;apply Bag.mul (w0:=w);(focus(repeat(first|exact b.o|apply Bag.alloc|apply Bag.drew)));(focus(simp only[mem_less,List.mem_cons,List.not_mem_nil,or_false,Qai,World.size_alloc,true_or,or_true,true_and,and_true]<;>omega));(focus(repeat(first|exact mH|apply mT)));(focus(repeat(first|exact mH|apply mT)));omega;rintro e w1 ⟨rfl,a,c,l⟩;clear b;have b:=Hi a;clear a
    (try simp only[Qai,World.size_alloc] at c))
  |
   (go_at_call 80
    apply cM;apply Bag.den (w0:=w);(focus(repeat(first|exact b.o|apply Bag.alloc|apply Bag.drew)));(focus(repeat(first|exact mH|apply mT)));rintro e w1 ⟨b1,B,rfl,a,c⟩;clear b;have b:=Hi a;clear a
    (try simp only[Qai,World.size_alloc] at c))
  |
   (go_at_call 134
    apply cM;apply Bag.add (w0:=w);(focus(repeat(first|exact b.o|apply Bag.alloc|apply Bag.drew)));(focus(simp only[mem_less,List.mem_cons,List.not_mem_nil,or_false,Qai,World.size_alloc,true_or,or_true,true_and,and_true]<;>omega));(focus(repeat(first|exact mH|apply mT)));(focus(repeat(first|exact mH|apply mT)));omega;rintro e w1 ⟨rfl,a,c,l⟩;clear b;have b:=Hi a;clear a
    (try simp only[Qai,World.size_alloc] at c))
  |
   (go_at_call 91
    apply cM;apply Bag.setFrac (w0:=w);(focus(repeat(first|exact b.o|apply Bag.alloc|apply Bag.drew)));(focus(repeat(first|exact mH|apply mT)));(focus(repeat(first|exact mH|apply mT)));(focus(repeat(first|exact mH|apply mT)));exact f.o;omega;omega;rintro e C d;have z:=Hi d;obtain⟨rfl,g,n⟩:=d
    clear b g n)
  )
 all_goals
  go_wp2_with (first
   |
    (go_at_call 80
     apply cM;apply Bag.den (w0:=w);(focus(repeat(first|exact b.o|apply Bag.alloc|apply Bag.drew)));(focus(repeat(first|exact mH|apply mT)));rintro e w1 ⟨b1,B,rfl,a,c⟩;clear b;have b:=Hi a;clear a
     (try simp only[Qai,World.size_alloc] at c))
   |
    (go_at_call 82
     apply cM;apply Bag.mul (w0:=w);(focus(repeat(first|exact b.o|apply Bag.alloc|apply Bag.drew)));(focus(simp only[mem_less,List.mem_cons,List.not_mem_nil,or_false,Qai,World.size_alloc,true_or,or_true,true_and,and_true]<;>omega));(focus(repeat(first|exact mH|apply mT)));(focus(repeat(first|exact mH|apply mT)));omega;rintro e w1 ⟨rfl,a,c,l⟩;clear b;have b:=Hi a;clear a
     (try simp only[Qai,World.size_alloc] at c))
   |
    (go_at_call 91
     apply cM;apply Bag.setFrac (w0:=w);(focus(repeat(first|exact b.o|apply Bag.alloc|apply Bag.drew)));(focus(repeat(first|exact mH|apply mT)));(focus(repeat(first|exact mH|apply mT)));(focus(repeat(first|exact mH|apply mT)));exact f.o;omega;omega;rintro e C d;have z:=Hi d;obtain⟨rfl,g,n⟩:=d
     clear b g n)
   )
  go_ret;rw[<-A.o];exact z.o
def sgn3(X:Int):Int:=if X<0 then -1 else if X=0 then 0 else 1
def cmpZ(X Y:Int):Int:=if X<Y then -1 else if X=Y then 0 else 1
theorem Qsy(b o:Nat)(X:Int)(a:Vx)(h:Nat)(l:Vy)(w:Vz)(c:IntAt w b o X a h l):
 Calls prog 131 #[.pointer (some ⟨b,o,none⟩)] w fun e j=>e=.returned (.int .i64 (sgn3 X))/\j=w:=by
 have i:=c.neg;have k1:=c.abs;by_cases f:X=0
 .
  have q:((l.length:Int) == 0)=true:=by
   have:=(c.num.num.len_zero (by decide)).1 (by omega);simp[this]
  have g:=Hi (show sgn3 X=0 by unfold sgn3;rw[if_neg (by omega),if_pos f]);clear c f;go_enter func131,ntmps131;go_wp2;go_ret;exact⟨by rw[g.o];rfl,rfl⟩
 .
  have q:((l.length:Int) == 0)=false:=by
   rw[beq_eq_false_iff_ne];have:=(c.num.num.len_zero (by decide)).2;omega
  by_cases d:X<0
  .
   have g:=Hi (show sgn3 X= -1 by unfold sgn3;rw[if_pos d]);rw[show decide (X<0)=true by simpa using d] at i;clear c f d;go_enter func131,ntmps131;go_wp2;go_ret;exact⟨by rw[g.o];rfl,rfl⟩
  .
   have g:=Hi (show sgn3 X=1 by unfold sgn3;rw[if_neg d,if_neg f]);rw[show decide (X<0)=false by simpa using d] at i;clear c f d;go_enter func131,ntmps131;go_wp2;go_ret;exact⟨by rw[g.o];rfl,rfl⟩
theorem Qsz(b:Nat)(q:Rat)(w:Vz)(a:RatVal w b q):
 Calls prog 68 #[.pointer (some ⟨b,0,none⟩)] w fun e c=>e=.returned (.int .i64 (sgn3 q.num))/\c=w:=by
 obtain⟨D,d,c1,f,i,c2,j,h,g⟩:=a;have H:=Hi h.upper;clear h g;go_enter func68,ntmps68;go_wp2_with fail;refine(Qsy b 0 q.num d c1 f _ H.o).mono ?_;rintro e w1 ⟨rfl,rfl⟩;go_wp2;go_ret;exact⟨rfl,rfl⟩
theorem Qs0(X Y:Int)(a:X<0)(b:Y<0):cmpZ X Y= -(cmp3 X.natAbs Y.natAbs):=by
 have c:X.natAbs<Y.natAbs↔Y<X:=by omega
 have d:X.natAbs=Y.natAbs↔X=Y:=by omega
 unfold cmpZ cmp3;rcases Int.lt_trichotomy X Y with h|h|h
 . rw[if_pos h,if_neg (by omega),if_neg (by omega)]
 . rw[if_neg (by omega),if_pos h,if_neg (by omega),if_pos (by omega)];rfl
 . rw[if_neg (by omega),if_neg (by omega),if_pos (by omega)];rfl
theorem Qs1(X Y:Int)(a:0<=X)(b:0<=Y):cmpZ X Y=cmp3 X.natAbs Y.natAbs:=by
 unfold cmpZ cmp3;rcases Int.lt_trichotomy X Y with h|h|h
 . rw[if_pos h,if_pos (by omega)]
 . rw[if_neg (by omega),if_pos h,if_neg (by omega),if_pos (by omega)]
 . rw[if_neg (by omega),if_neg (by omega),if_neg (by omega),if_neg (by omega)]
theorem Qs2(z:Int)(a: -1<=z)(b:z<=1):wrap64 z=z:=by unfold wrap64;omega
theorem neg3(x y:Nat):Ending.returned (.int .i64 (wrap64 (-cmp3 x y)))=Ending.returned (.int .i64 (-cmp3 x y)):=by
 have h:=Qnf x y;rw[Qs2 _ (by omega) (by omega)]
theorem Qs3(r s:Nat)(X:Int)(a:Vx)(f:Nat)(l:Vy)(t u:Nat)(Y:Int)(b:Vx)(cap':Nat)(m:Vy)(w:Vz)(p:IntAt w r s X a f l)(q:IntAt w t u Y b cap' m):
 Calls prog 81 #[.pointer (some ⟨r,s,none⟩),.pointer (some ⟨t,u,none⟩)] w fun e j=>e=.returned (.int .i64 (cmpZ X Y))/\Below w.heap.size w j:=by
 have n:=p.neg;have k1:=p.abs;have v:=q.neg;have y:=q.abs;have g:=p.lt;have i:=q.lt;obtain⟨z,A⟩:=Ia p.num q.num;clear p q;by_cases c:decide (X<0)=decide (Y<0)
 .
  by_cases h:X<0
  .
   rw[show decide (X<0)=true by simpa using h] at n;rw[show decide (Y<0)=true by simp at c ⊢;omega] at v;have k:=Hi (Qs0 X Y (by omega) (by simp at c;omega));clear c h;go_enter func81,ntmps81;go_wp2_with fail;go_region;go_wp2_with fail;go_region_held3 (fun j=>j.cell? ⟨r,s+1,none⟩=some (.slice a l.length f)/\j.cell? ⟨t,u+1,none⟩=some (.slice b m.length cap')) ((simp [*])) (first|(go_at_call 136;refine(Qbc a b f cap' l m X.natAbs Y.natAbs _ ?_ ?_).mono ?_;exact z.o.below ((bR.drew).drew);exact A.o.below ((bR.drew).drew);rintro e w1 ⟨rfl,d⟩;have x:=Hi (((Below.refl w.heap.size w).drew.drew).trans d);have d0:=ce d g n;have d1:=ce d g k1;have d2:=ce d i y;clear d));go_wp2;go_ret;exact⟨by rw[k.o];exact neg3 _ _,x.o⟩
  .
   rw[show decide (X<0)=false by simpa using h] at n;rw[show decide (Y<0)=false by simp at c ⊢;omega] at v;have k:=Hi (Qs1 X Y (by omega) (by simp at c;omega));clear c h;go_enter func81,ntmps81;go_wp2_with fail;go_region;go_wp2_with fail;go_region_held3 (fun j=>j.cell? ⟨r,s+1,none⟩=some (.slice a l.length f)/\j.cell? ⟨t,u+1,none⟩=some (.slice b m.length cap')) ((simp [*])) (first|(go_at_call 136;refine(Qbc a b f cap' l m X.natAbs Y.natAbs _ ?_ ?_).mono ?_;exact z.o.below ((bR.drew).drew);exact A.o.below ((bR.drew).drew);rintro e w1 ⟨rfl,d⟩;have x:=Hi (((Below.refl w.heap.size w).drew.drew).trans d);have d0:=ce d g n;have d1:=ce d g k1;have d2:=ce d i y;clear d));go_wp2;go_ret;exact⟨by rw[k.o];rfl,x.o⟩
 .
  by_cases h:X<0
  .
   rw[show decide (X<0)=true by simpa using h] at n;rw[show decide (Y<0)=false by simp at c ⊢;omega] at v;have k:=Hi (show cmpZ X Y= -1 by unfold cmpZ;rw[if_pos (by simp at c;omega)]);clear c h;go_enter func81,ntmps81;go_wp2_with fail;go_region;go_wp2;go_ret;exact⟨by rw[k.o];rfl,bR.drew⟩
  .
   rw[show decide (X<0)=false by simpa using h] at n;rw[show decide (Y<0)=true by simp at c ⊢;omega] at v;have k:=Hi (show cmpZ X Y=1 by unfold cmpZ;rw[if_neg (by simp at c;omega),if_neg (by simp at c;omega)]);clear c h;go_enter func81,ntmps81;go_wp2_with fail;go_region;go_wp2;go_ret;exact⟨by rw[k.o];rfl,bR.drew⟩
theorem Qs4(X:Int): -X=if (!decide (X<0))=true then -(X.natAbs:Int) else (X.natAbs:Int):=by
 by_cases h:X<0
 . simp[h];omega
 . simp[h];omega
theorem Qs5(c d:Nat)(t:Vr)(C:Vw)(X:Int)(a:Vx)(f:Nat)(l:Vy)(w:Vz)(n:SB w c t C)(p:NoInt C)(r:d+1<C.size)(g:IntAt w c d X a f l):
 Calls prog 153 #[.pointer (some ⟨c,d,none⟩),.pointer (some ⟨c,d,none⟩)] w (LaidOk w c d t C (-X)):=by
 have s:=g.neg;have k1:=g.abs;have h:=g.lt;obtain⟨q,u,v⟩:=Ib n p g.num;clear n p g;go_enter func153,ntmps153;go_wp2;go_region_with (first
  |(go_at_call 191;refine(Qe2 a f l X.natAbs _ ?_).mono ?_;exact v.o.drew;rintro e w1 ⟨⟨x,i,rfl,j⟩,b⟩;have z:=ce b h s;have c1:=ce b h k1;have m:=Hi j;have k:=Hi ((Below.refl w.heap.size w).drew.trans b);clear j b)
  |(go_at_call 137;refine(Qca c d t C _ x i l X.natAbs (-X) _ ?_ u.o r m.o ?_).mono ?_;exact q.o.below k.o q.o.lt;exact Qs4 X;rintro e w2 ⟨rfl,hl⟩;have y:=Hi hl;clear hl))
 all_goals
  go_wp2;go_ret;exact LaidOk.of (Only.of_below k.o) ⟨rfl,_,_,_,y.o⟩
theorem Qs6(f h j:Nat)(p:Rat)(w:Vz)(i:(Thing.room f).holds w)(k:RatVal w h p)(l:Fits p j)(s:j<549755813000):
 Calls prog 152 #[.pointer (some ⟨f,0,none⟩),.pointer (some ⟨h,0,none⟩)] w (RatOk w f p):=by
 obtain⟨b,m,c⟩:=Ib (Qcd p) (show mkRat p.num (p.den:Int).natAbs=p by rw[Int.natAbs_natCast,Rat.mkRat_self]) (Bag.one k i l);clear k i l;go_enter func152,ntmps152;go_wp2;go_region_held3 (fun _=>True) (trivial) (first
  |(
   go_at_call 80;apply cM;apply Bag.den (w0:=w);(focus(repeat(first|exact c.o|apply Bag.alloc|apply Bag.drew)));(focus(repeat(first|exact mH|apply mT)));rintro e w1 ⟨b1,t,rfl,a,n⟩;clear c;have c:=Hi a
   clear a)
  |(
   go_at_call 91;apply cM;apply Bag.setFrac (w0:=w);(focus(repeat(first|exact c.o|apply Bag.alloc|apply Bag.drew)));(focus(repeat(first|exact mH|apply mT)));(focus(repeat(first|exact mH|apply mT)));(focus(repeat(first|exact mH|apply mT)));exact b.o;omega;omega;rintro e u d;have q:=Hi d;obtain⟨rfl,g,r⟩:=d
   clear c g r))
 go_wp2;go_ret;rw[<-m.o];exact q.o
theorem Qkm(b h j:Nat)(p:Rat)(w:Vz)(m:(Thing.room b).holds w)(n:RatVal w h p)(q:Fits p j)(r:j<549755813000):
 Calls prog 92 #[.pointer (some ⟨b,0,none⟩),.pointer (some ⟨h,0,none⟩)] w (RatOk w b (-p)):=by
 have d:=Hi (Qs6 b h j p w m n q r);clear n m q r;go_enter func92,ntmps92;go_wp2_with fail;refine d.o.mono ?_;rintro e w1 ⟨rfl,c,t,c1,u,v,c2,x,s⟩;obtain⟨f,i⟩:=Ia s c;clear s c d;go_wp2_with fail;have d:=Hi (Qs5 b 0 123 _ p.num t c1 u _ f.o.sb.drew (Qan _ _ _ _ _ _ _ _) (by simp) f.o.drew.upper);go_region_held3 (fun _=>True) (trivial) (first
  |(
   go_at_call 153;refine d.o.mono ?_;rintro e w2 ⟨rfl,a,k,l,hl⟩;have g:=Hi hl
   clear hl))
 go_wp2;go_ret;refine⟨rfl,i.o.drew.trans g.o.only,a,k,l,v,c2,x,?_,?_,?_⟩
 .
  have:=g.o.sb;rw[Rat.neg_num,Rat.neg_den]
  simpa [putInt] using this
 . rw[Rat.neg_num];exact g.o.num
 . rw[Rat.neg_den];exact f.o.den.drew.only g.o.only f.o.sb.drew (Qan _ _ _ _ _ _ _ _)
theorem Qs7(s:Nat)(x:Nat)(w:Vz)(z:(Thing.room s).holds w)(N:x<1000000):
 Calls prog 84 #[.pointer (some ⟨s,0,none⟩),.int .i64 x] w (RatOk w s (x:Rat)):=by
 have F:=Hi z;have G:=Hi (show mkRat (x:Int) (1:Int).natAbs=(x:Rat) by
  apply Rat.ext
  . rw[Rat.num_mkRat];simp
  . rw[Rat.den_mkRat];simp)
 clear z;go_enter func84,ntmps84;go_wp2_with fail;refine(Qbu (x:Int) _ (by omega) (by omega)).mono ?_;rintro e w1 ⟨⟨b1,A,c,t,rfl,g,a,h⟩,i⟩;obtain⟨j,k⟩:=Ia (show IntAt w1 b1 0 x A c t from ⟨by rw[a.cell];simp,by rw[a.cell];rfl,h,a.lt⟩) i;clear g a h i;go_wp2_with fail;refine(Qbu 1 _ (by decide) (by decide)).mono ?_;rintro e w2 ⟨⟨b2,B,d,u,rfl,l,b,m⟩,n⟩;obtain⟨p,q⟩:=Ia (show IntAt w2 b2 0 1 B d u from ⟨by rw[b.cell];rfl,by rw[b.cell];rfl,m,b.lt⟩) n;clear l b m n;go_wp2_with fail;obtain⟨H,I,J,K,v,C⟩:=F.o;have f:=k.o.trans (q.o.mono k.o.size);have D:t.length<=64:=j.o.num.len_bits (Nat.lt_of_le_of_lt (by omega) (by decide:1000000<2 ^ 64));have E:u.length<=64:=p.o.num.len_bits (by decide)
 refine(Qce s H I J K b1 0 x A c t b2 0 1 B d u _ (v.below f v.lt) C (j.o.below q.o) p.o (by decide) (by omega) (by omega)).mono ?_;rintro e O r;have L:=Hi (RatOk.of (Only.of_below f) r);obtain⟨rfl,y,M⟩:=r;clear y M v C f;go_wp2;go_ret;rw[<-G.o];exact L.o
def decVal(l:List UInt8):Nat:=l.foldl (fun a c=>10*a+(c.toNat - 48)) 0
theorem Qnb(l:List UInt8)(a:Nat):l.foldl (fun a c=>10*a+(c.toNat - 48)) a=a*10 ^ l.length+decVal l:=by
 induction l generalizing a with
 |nil=>simp[decVal]
 |cons c l b=>
  unfold decVal;rw[List.foldl_cons,List.foldl_cons,b,b (10*0+(c.toNat - 48)),List.length_cons,Nat.pow_succ,Nat.add_mul,Nat.mul_comm 10 a,Nat.mul_assoc,Nat.mul_comm 10 (10 ^ l.length),Nat.mul_zero,Nat.zero_add];omega
theorem Qb4(l m:List UInt8):decVal (l++m)=decVal l*10 ^ m.length+decVal m:=by
 conv=>lhs;unfold decVal
 rw[List.foldl_append];exact Qnb m _
theorem Qde(l:List UInt8)(c:UInt8):decVal (l++ [c])=10*decVal l+(c.toNat - 48):=by
 unfold decVal;rw[List.foldl_append];rfl
def AllDigits(l:List UInt8):Prop:=∀c,c∈ l→48≤c.toNat∧c.toNat≤57
theorem Qa0(l:List UInt8)(h:AllDigits l):decVal l<10 ^ l.length:=by
 induction l with
 |nil=>simp[decVal]
 |cons c l a=>
  have f:=h c (List.mem_cons_self ..);have g:=a fun d b=>h d (List.mem_cons_of_mem _ b)
  have e:decVal (c :: l)=(c.toNat - 48)*10 ^ l.length+decVal l:=by
   have:=Qb4 [c] l
   simpa [decVal] using this
  rw[e,List.length_cons,Nat.pow_succ];have:(c.toNat - 48)*10 ^ l.length≤9*10 ^ l.length:=Nat.mul_le_mul_right _ (by omega);omega
theorem Qhn(k:Nat):10 ^ k≤2 ^ (4*k):=by
 rw[Nat.pow_mul];exact Nat.pow_le_pow_left (by decide) k
theorem Qe6(s:ByteArray)(k:Nat)(h:k<s.size):s.data.toList.take (k+1)=s.data.toList.take k++ [s[k]]:=by
 rw[List.take_succ_eq_append_getElem (by simpa using h)];rfl
theorem Qe7{s:ByteArray}(a:AllDigits s.data.toList)(k:Nat)(h:k<s.size):48≤s[k].toNat∧s[k].toNat≤57:=
 a _ (List.mem_iff_getElem.2 ⟨k,by simpa using h,rfl⟩)
theorem AllDigits.take{l:List UInt8}(h:AllDigits l)(k:Nat):AllDigits (l.take k):=fun c a=>h c (List.mem_of_mem_take a)
def IsDec(l:List UInt8)(n:Nat):Prop:=(n=0∧l= [48])∨(n≠0∧∃ds,Num 10 ds n∧l=ds.reverse.map (fun d=>UInt8.ofNat (48+d)))
theorem IsDec.inj{l m:List UInt8}{n:Nat}(h:IsDec l n)(k:IsDec m n):l=m:=by
 rcases h with ⟨b,rfl⟩|⟨b,d,h,rfl⟩
 ·
  rcases k with ⟨a,rfl⟩|⟨a,c,k,rfl⟩
  · rfl
  · omega
 ·
  rcases k with ⟨a,rfl⟩|⟨a,c,k,rfl⟩
  · omega
  · rw[h.inj (by decide) k]
def IntText(l:List UInt8)(X:Int):Prop:=∃m,IsDec m X.natAbs∧l=if X<0 then 45 :: m else m
theorem IntText.inj{l m:List UInt8}{X:Int}(h:IntText l X)(k:IntText m X):l=m:=by
 obtain⟨a,c,rfl⟩:=h;obtain⟨b,d,rfl⟩:=k;rw[c.inj d]
theorem U32.len_dec{w:Vz}{a:Vx}{c:Nat}{l:Vy}{n k:Nat}(h:U32 w a c l n)(b:n<10 ^ k):l.length<=4*k:=
 h.len_bits (Nat.lt_of_lt_of_le b (Qhn k))
theorem Qi0(c:UInt8)(a:48<=c.toNat)(b:c.toNat<=57):∃d:Nat,d<=9/\c.toNat - 48=d/\(c.toNat:Int)=48+d:=⟨c.toNat - 48,by omega,rfl,by omega⟩
theorem Qcb(j:Nat)(s:Vs)(w:Vz)(R:SB w j 121 zeroInt)(Z:0<s.size)(aa:s.size<=1073741824)(I:AllDigits s.data.toList):
 Calls prog 89 #[.pointer (some ⟨j,0,none⟩),.string s,.int .i64 10] w fun e w'=>e=.returned (.tuple #[.pointer (some ⟨j,0,none⟩),.bool true])/\∃a b l,Laid w w' j 0 121 zeroInt (decVal s.data.toList) a b l:=by
 obtain⟨S,T⟩:=Ia R I;have J:=Qe7 I 0 Z;have q1:((s[0].toNat:Int) == 45)=false:=by rw[beq_eq_false_iff_ne];omega
 have q2:((s[0].toNat:Int) == 43)=false:=by rw[beq_eq_false_iff_ne];omega
 have q3:((s.size:Int) == 0)=false:=by rw[beq_eq_false_iff_ne];omega
 clear R I;go_enter func89,ntmps89;go_wp2;go_loopw [9,10] (fun r i wr=>∃(k:Nat) (a:Vx) (b:Nat) (l:Vy),k<=s.size/\i=.int .i64 k/\r=.slice a l.length b/\U32 wr a b l (decVal (s.data.toList.take k))/\Below w.heap.size w wr) (fun _ i _=>s.size - (intOf i).toNat)
 case atStart=>exact⟨0,none,0,[],by omega,rfl,rfl,⟨Row.nil _ _,by simpa [decVal] using Num.zero _,by simp⟩,Below.refl _ _⟩
 case round=>
  obtain⟨k,a,b,l,hk,rfl,rfl,U,V⟩:=hrel;obtain⟨G,H⟩:=Ia U V;clear U V;by_cases m:k<s.size
  .
   have c:=Qe7 T.o k m;have HT:=Hi (Qe6 s k m);obtain⟨d,ab,n,ad⟩:=Qi0 s[k] c.1 c.2;have K:=Hi n;have b0:(0:Int)<=(k:Int):=by omega
   have b1:(k:Int)<(s.size:Int):=by omega
   clear n;have ae:(48:Int)+(d:Int) - 48=d:=by omega
   have p:=Hi (Qa0 _ (T.o.take k));have W:l.length<=4294967296:=by
    have h1:=G.o.len_dec p.o;have h2:(s.data.toList.take k).length<=k:=by rw[List.length_take];omega
    omega
   clear c J;go_wp2_with fail;refine(Qbn 10 _ (by decide) (by decide)).mono ?_;rintro e w1 ⟨⟨a1,q,X,rfl,t,af⟩,u⟩;obtain⟨v,f⟩:=Ia t u;clear t u;go_wp2_with fail;refine(Qhh a a1 b q l X _ _ _ (G.o.below f.o) v.o (by omega)).mono ?_;rintro e w2 ⟨⟨a2,x,Y,rfl,g⟩,y⟩;have ag:Y.length<=l.length+X.length+1:=G.o.len_of v.o g (.inl lZ);obtain⟨L,z⟩:=Ia g y;clear g y;go_wp2_with fail;refine(Qbn (d:Int) _ (by omega) (by omega)).mono ?_;rintro e w3 ⟨⟨a3,A,r3,rfl,B,ah⟩,C⟩;obtain⟨M,h⟩:=Ia B C;clear B C;go_wp2_with fail;refine(Qhe a2 a3 x A Y r3 _ _ _ (L.o.below h.o) M.o (by omega) (by omega)).mono ?_;rintro e w4 ⟨⟨a4,D,r4,rfl,E⟩,F⟩;obtain⟨N,O⟩:=Ia E F;clear E F;go_wp2;go_roundw
   case rel=>
    have s1:=H.o.size;have s2:=f.o.size;have s3:=z.o.size;have s4:=h.o.size;refine⟨k+1,a4,D,r4,by omega,by go_num,rfl,?_,(((H.o.trans (f.o.mono (by omega))).trans (z.o.mono (by omega))).trans (h.o.mono (by omega))).trans (O.o.mono (by omega))⟩;have e:decVal (s.data.toList.take (k+1))=decVal (s.data.toList.take k)*(10:Int).toNat+(d:Int).toNat:=by
     rw[HT.o,Qde,K.o];simp;omega
    rw[e];exact N.o
   case measure=>simp[intOf];omega
  .
   have P:k=s.size:=by omega
   subst P;go_wp2_with fail;refine(Qca j 0 121 zeroInt false a b l _ (decVal s.data.toList) _ (S.o.below H.o S.o.lt) Tryz.int_zero (by simp[zeroInt]) G.o ?_).mono ?_
   . rw[show s.data.toList.take s.size=s.data.toList from List.take_of_length_le (by simp)]
     simp
   rintro e w1 ⟨rfl,hl⟩;have HL:=Hi hl;clear hl;go_wp2;go_ret2;obtain⟨_,a',c',l',Q⟩:=LaidOk.of (Only.of_below H.o) ⟨rfl,_,_,_,HL.o⟩;exact⟨rfl,a',c',l',Q⟩
theorem Qcw{w k:Vz}{a:Nat}{e:Vr}{b:Nat}{v:Value}{n:Nat}{xs:Vv}(h:w.ownsRow a e b v n xs)(l:Bl w k):k.ownsRow a e b v n xs:=by
 refine⟨h.1,?_⟩;rcases h.2 with c|⟨g,d,f,c,m,i,o⟩
 . exact .inl c
 .
  refine .inr ⟨g,d,f,c,m,?_,o⟩;have j:g<w.heap.size:=by
   apply bC;intro p;rw[Array.getElem?_eq_none (by omega)] at i;cases i
  rw[l.block g j];exact i
def sliceLen:Value->Nat
 | .slice _ n _=>n
 |_=>0
theorem Qi4{w:Vz}{a:Nat}{e:Vr}{b:Nat}{v:Value}{n:Nat}{xs:Vv}(h:w.ownsRow a e b v n xs):sliceLen v=n:=by
 rcases h.2 with ⟨rfl,rfl⟩|⟨g,c,d,rfl,_⟩<;>rfl
theorem Tryz.info8:(prog.info? 5).map (fun i=>(i.zero,i.size,i.bytes))=some (some (.int .u8 0),1,1):=by kernel_rfl
def QText(l:Vu)(q:Rat):Prop:=∃m,IntText m q.num/\((q.den=1/\l=m)∨(q.den≠1/\∃d,IsDec d q.den/\l=m++47 :: d))
theorem QText.inj{l m:Vu}{q:Rat}(h:QText l q)(k:QText m q):l=m:=by
 obtain⟨a,f,h⟩:=h;obtain⟨b,g,k⟩:=k;have:=f.inj g;subst this;rcases h with ⟨c,rfl⟩|⟨c,d,i,rfl⟩
 .
  rcases k with ⟨k1,rfl⟩|⟨k1,_⟩
  . rfl
  . exact absurd c k1
 .
  rcases k with ⟨k1,rfl⟩|⟨k1,e,j,rfl⟩
  . exact absurd k1 c
  . rw[i.inj j]
section
open Go
def IsDig(l:Vu):Prop:=l≠ []/\AllDigits l
def QForm(t:Vu):Prop:=IsDig (Lib.cut t [47]).1/\((Lib.cut t [47]).2.2=true->IsDig (Lib.cut t [47]).2.1/\decVal (Lib.cut t [47]).2.1≠0)
def IsQ(t:Vu)(v:Rat):Prop:=(QForm t/\v=mkRat (decVal (Lib.cut t [47]).1:Nat) (if (Lib.cut t [47]).2.2=true then decVal (Lib.cut t [47]).2.1 else 1))∨(¬QForm t/\v=0)
def QOf(l:Vu)(q:Rat):Prop:=∃v,IsQ (Lib.trimPrefix l [45]) v/\q=if Lib.hasPrefix l [45]=true then -v else v
theorem IsQ.inj{t:Vu}{u v:Rat}(h:IsQ t u)(k:IsQ t v):u=v:=by
 rcases h with ⟨a,rfl⟩|⟨a,rfl⟩<;>rcases k with ⟨k1,rfl⟩|⟨k1,rfl⟩
 . rfl
 . exact absurd a k1
 . exact absurd k1 a
 . rfl
theorem QOf.inj{t:Vu}{u v:Rat}(h:QOf t u)(k:QOf t v):u=v:=by
 obtain⟨a,c,rfl⟩:=h;obtain⟨b,d,rfl⟩:=k;rw[c.inj d]
theorem IsQ.ex(t:Vu):∃v,IsQ t v:=by
 by_cases h:QForm t
 . exact⟨_,.inl ⟨h,rfl⟩⟩
 . exact⟨_,.inr ⟨h,rfl⟩⟩
theorem QOf.ex(t:Vu):∃v,QOf t v:=by
 obtain⟨v,a⟩:=IsQ.ex (Lib.trimPrefix t [45]);exact⟨_,v,a,rfl⟩
theorem Fits.mono{q:Rat}{j k:Nat}(h:Fits q j)(hk:j<=k):Fits q k:=
 have:=Nat.pow_le_pow_right (by decide:0<2) hk
 ⟨Nat.lt_of_lt_of_le h.1 this,Nat.lt_of_lt_of_le h.2 this⟩
theorem Fits.zero:Fits 0 1:=⟨by decide,by decide⟩
theorem Fits.mk{a:Int}{b k:Nat}(d:a.natAbs<2 ^ k)(e:b<2 ^ k)(hk:0<k):Fits (mkRat a b) k:=by
 by_cases c:b=0
 .
  subst c;rw[Rat.mkRat_zero];exact Fits.zero.mono hk
 constructor
 .
  rw[Rat.num_mkRat,if_neg c];refine Nat.lt_of_le_of_lt ?_ d;exact Int.natAbs_ediv_le_natAbs _ _
 . rw[Rat.den_mkRat,if_neg c]
   exact Nat.lt_of_le_of_lt (Nat.div_le_self _ _) e
theorem Fits.neg{q:Rat}{k:Nat}(h:Fits q k):Fits (-q) k:=by
 constructor
 . rw[Rat.neg_num,Int.natAbs_neg];exact h.1
 . rw[Rat.neg_den];exact h.2
theorem Qkf(t:Vu):(Lib.cut t [47]).1.length<=t.length:=by
 unfold Lib.cut
 split
 . simp;omega
 . simp
theorem Qkg(t:Vu):(Lib.cut t [47]).2.1.length<=t.length:=by
 unfold Lib.cut
 split
 . simp
 . simp
theorem Qeb{l:Vu}{n:Nat}(h:AllDigits l)(hl:l.length<=n):decVal l<2 ^ (4*n):=
 Nat.lt_of_lt_of_le (Qa0 l h) (Nat.le_trans (Nat.pow_le_pow_right (by decide) hl) (Qhn n))
theorem IsQ.fits{t:Vu}{v:Rat}{n:Nat}(h:IsQ t v)(a:t.length<=n):Fits v (4*n+1):=by
 rcases h with ⟨h,rfl⟩|⟨_,rfl⟩
 .
  have e:(2:Nat) ^ (4*n)<=2 ^ (4*n+1):=Nat.pow_le_pow_right (by decide) (by omega);have c:=Qeb h.1.2 (Nat.le_trans (Qkf t) a);refine Fits.mk ?_ ?_ (by omega)
  . rw[Int.natAbs_natCast];omega
  .
   split
   .
    rename_i b;have:=Qeb (h.2 b).1.2 (Nat.le_trans (Qkg t) a);omega
   . exact Nat.one_lt_two_pow (by omega)
 . exact Fits.zero.mono (by omega)
theorem Qec(l p:Vu):(Lib.trimPrefix l p).length<=l.length:=by
 unfold Lib.trimPrefix
 split
 . simp
 . simp
theorem QOf.fits{t:Vu}{q:Rat}{n:Nat}(h:QOf t q)(a:t.length<=n):Fits q (4*n+1):=by
 obtain⟨v,b,rfl⟩:=h;have:=b.fits (Nat.le_trans (Qec t [45]) a)
 split
 . exact this.neg
 . exact this
end
end Go.Proofs.YtkkadnoecklepaaGreatDoor
namespace Go.Proofs
open Go.Shelf
def Tryz.lays99_ren:Go.Shelf.Ren:=⟨fun|99=>85|206=>139|n=>n,fun|9=>9|4=>4|3=>3|n=>n,fun|n=>n⟩
theorem Tryz.lays99:Go.Proofs.Lays.n99 Tryz.prog Tryz.lays99_ren:={
 mixed:=by kernel_rfl
 f99:=Tryz.func85.trans (congrArg some (by kernel_rfl))
 f206:=Tryz.func139.trans (congrArg some (by kernel_rfl))
 t3:=Tryz.underlying3
 a3:=Tryz.isAgg3
 z3:=Tryz.sizeOf3
 v3:=Tryz.zeroValue3
 t4:=Tryz.underlying4
 a4:=Tryz.isAgg4
 z4:=Tryz.sizeOf4
 v4:=Tryz.zeroValue4
 t9:=Tryz.underlying9
 a9:=Tryz.isAgg9
 z9:=Tryz.sizeOf9
 v9:=Tryz.zeroValue9 }
def Tryz.lays147_ren:Go.Shelf.Ren:=⟨fun|147=>86|221=>140|268=>195|138=>196|143=>197|195=>229|197=>199|218=>230|219=>212|260=>231|217=>241|225=>242|224=>243|267=>244|266=>254|314=>255|n=>n,fun|9=>9|3=>3|31=>133|4=>4|0=>0|105=>242|21=>21|5=>5|46=>238|119=>281|139=>284|138=>283|146=>286|51=>233|n=>n,fun|1=>4|3=>7|4=>8|n=>n⟩
theorem Tryz.lays147:Go.Proofs.Lays.n147 Tryz.prog Tryz.lays147_ren:={
 mixed:=by kernel_rfl
 f138:=Tryz.func196.trans (congrArg some (by kernel_rfl))
 f143:=Tryz.func197.trans (congrArg some (by kernel_rfl))
 f147:=Tryz.func86.trans (congrArg some (by kernel_rfl))
 f195:=Tryz.func229.trans (congrArg some (by kernel_rfl))
 f197:=Tryz.func199.trans (congrArg some (by kernel_rfl))
 f217:=Tryz.func241.trans (congrArg some (by kernel_rfl))
 f218:=Tryz.func230.trans (congrArg some (by kernel_rfl))
 f219:=Tryz.func212.trans (congrArg some (by kernel_rfl))
 f221:=Tryz.func140.trans (congrArg some (by kernel_rfl))
 f224:=Tryz.func243.trans (congrArg some (by kernel_rfl))
 f225:=Tryz.func242.trans (congrArg some (by kernel_rfl))
 f260:=Tryz.func231.trans (congrArg some (by kernel_rfl))
 f266:=Tryz.func254.trans (congrArg some (by kernel_rfl))
 f267:=Tryz.func244.trans (congrArg some (by kernel_rfl))
 f268:=Tryz.func195.trans (congrArg some (by kernel_rfl))
 f314:=Tryz.func255.trans (congrArg some (by kernel_rfl))
 t0:=Tryz.underlying0
 a0:=Tryz.isAgg0
 z0:=Tryz.sizeOf0
 v0:=Tryz.zeroValue0
 t3:=Tryz.underlying3
 a3:=Tryz.isAgg3
 z3:=Tryz.sizeOf3
 v3:=Tryz.zeroValue3
 t4:=Tryz.underlying4
 a4:=Tryz.isAgg4
 z4:=Tryz.sizeOf4
 v4:=Tryz.zeroValue4
 t5:=Tryz.underlying5
 a5:=Tryz.isAgg5
 z5:=Tryz.sizeOf5
 v5:=Tryz.zeroValue5
 t9:=Tryz.underlying9
 a9:=Tryz.isAgg9
 z9:=Tryz.sizeOf9
 v9:=Tryz.zeroValue9
 t21:=Tryz.underlying21
 a21:=Tryz.isAgg21
 z21:=Tryz.sizeOf21
 v21:=Tryz.zeroValue21
 t31:=Tryz.underlying133
 a31:=Tryz.isAgg133
 z31:=Tryz.sizeOf133
 v31:=Tryz.zeroValue133
 t46:=Tryz.underlying238
 a46:=Tryz.isAgg238
 z46:=Tryz.sizeOf238
 v46:=Tryz.zeroValue238
 t51:=Tryz.underlying233
 a51:=Tryz.isAgg233
 z51:=Tryz.sizeOf233
 v51:=Tryz.zeroValue233
 t105:=Tryz.underlying242
 a105:=Tryz.isAgg242
 z105:=Tryz.sizeOf242
 v105:=Tryz.zeroValue242
 t119:=Tryz.underlying281
 a119:=Tryz.isAgg281
 z119:=Tryz.sizeOf281
 t138:=Tryz.underlying283
 a138:=Tryz.isAgg283
 z138:=Tryz.sizeOf283
 v138:=Tryz.zeroValue283
 t139:=Tryz.underlying284
 a139:=Tryz.isAgg284
 z139:=Tryz.sizeOf284
 v139:=Tryz.zeroValue284
 t146:=Tryz.underlying286
 a146:=Tryz.isAgg286
 z146:=Tryz.sizeOf286
 v146:=Tryz.zeroValue286
 g1:=by kernel_rfl
 g3:=by kernel_rfl
 g4:=by kernel_rfl }
def Tryz.lays160_ren:Go.Shelf.Ren:=⟨fun|160=>88|232=>142|231=>141|227=>143|234=>145|233=>144|236=>147|235=>146|228=>198|271=>201|151=>200|197=>199|120=>233|152=>232|260=>231|137=>252|119=>253|224=>243|225=>242|217=>241|266=>254|n=>n,fun|9=>9|4=>4|3=>3|5=>5|117=>185|116=>184|0=>0|124=>188|21=>21|105=>242|46=>238|119=>281|139=>284|138=>283|n=>n,fun|3=>7|4=>8|n=>n⟩
theorem Tryz.lays160:Go.Proofs.Lays.n160 Tryz.prog Tryz.lays160_ren:={
 mixed:=by kernel_rfl
 f119:=Tryz.func253.trans (congrArg some (by kernel_rfl))
 f120:=Tryz.func233.trans (congrArg some (by kernel_rfl))
 f137:=Tryz.func252.trans (congrArg some (by kernel_rfl))
 f151:=Tryz.func200.trans (congrArg some (by kernel_rfl))
 f152:=Tryz.func232.trans (congrArg some (by kernel_rfl))
 f160:=Tryz.func88.trans (congrArg some (by kernel_rfl))
 f197:=Tryz.func199.trans (congrArg some (by kernel_rfl))
 f217:=Tryz.func241.trans (congrArg some (by kernel_rfl))
 f224:=Tryz.func243.trans (congrArg some (by kernel_rfl))
 f225:=Tryz.func242.trans (congrArg some (by kernel_rfl))
 f227:=Tryz.func143.trans (congrArg some (by kernel_rfl))
 f228:=Tryz.func198.trans (congrArg some (by kernel_rfl))
 f231:=Tryz.func141.trans (congrArg some (by kernel_rfl))
 f232:=Tryz.func142.trans (congrArg some (by kernel_rfl))
 f233:=Tryz.func144.trans (congrArg some (by kernel_rfl))
 f234:=Tryz.func145.trans (congrArg some (by kernel_rfl))
 f235:=Tryz.func146.trans (congrArg some (by kernel_rfl))
 f236:=Tryz.func147.trans (congrArg some (by kernel_rfl))
 f260:=Tryz.func231.trans (congrArg some (by kernel_rfl))
 f266:=Tryz.func254.trans (congrArg some (by kernel_rfl))
 f271:=Tryz.func201.trans (congrArg some (by kernel_rfl))
 t0:=Tryz.underlying0
 a0:=Tryz.isAgg0
 z0:=Tryz.sizeOf0
 v0:=Tryz.zeroValue0
 t3:=Tryz.underlying3
 a3:=Tryz.isAgg3
 z3:=Tryz.sizeOf3
 v3:=Tryz.zeroValue3
 t4:=Tryz.underlying4
 a4:=Tryz.isAgg4
 z4:=Tryz.sizeOf4
 v4:=Tryz.zeroValue4
 t5:=Tryz.underlying5
 a5:=Tryz.isAgg5
 z5:=Tryz.sizeOf5
 v5:=Tryz.zeroValue5
 t9:=Tryz.underlying9
 a9:=Tryz.isAgg9
 z9:=Tryz.sizeOf9
 v9:=Tryz.zeroValue9
 t21:=Tryz.underlying21
 a21:=Tryz.isAgg21
 z21:=Tryz.sizeOf21
 v21:=Tryz.zeroValue21
 t46:=Tryz.underlying238
 a46:=Tryz.isAgg238
 z46:=Tryz.sizeOf238
 v46:=Tryz.zeroValue238
 t105:=Tryz.underlying242
 a105:=Tryz.isAgg242
 z105:=Tryz.sizeOf242
 v105:=Tryz.zeroValue242
 t116:=Tryz.underlying184
 a116:=Tryz.isAgg184
 z116:=Tryz.sizeOf184
 t117:=Tryz.underlying185
 a117:=Tryz.isAgg185
 z117:=Tryz.sizeOf185
 v117:=Tryz.zeroValue185
 t119:=Tryz.underlying281
 a119:=Tryz.isAgg281
 z119:=Tryz.sizeOf281
 t124:=Tryz.underlying188
 a124:=Tryz.isAgg188
 z124:=Tryz.sizeOf188
 v124:=Tryz.zeroValue188
 t138:=Tryz.underlying283
 a138:=Tryz.isAgg283
 z138:=Tryz.sizeOf283
 v138:=Tryz.zeroValue283
 t139:=Tryz.underlying284
 a139:=Tryz.isAgg284
 z139:=Tryz.sizeOf284
 v139:=Tryz.zeroValue284
 g3:=by kernel_rfl
 g4:=by kernel_rfl }
def Tryz.lays161_ren:Go.Shelf.Ren:=⟨fun|161=>173|231=>141|227=>143|233=>144|235=>146|228=>198|197=>199|151=>200|260=>231|152=>232|137=>252|119=>253|224=>243|225=>242|217=>241|266=>254|n=>n,fun|9=>9|4=>4|3=>3|5=>5|117=>185|116=>184|0=>0|124=>188|105=>242|21=>21|119=>281|46=>238|139=>284|138=>283|n=>n,fun|3=>7|4=>8|n=>n⟩
theorem Tryz.lays161:Go.Proofs.Lays.n161 Tryz.prog Tryz.lays161_ren:={
 mixed:=by kernel_rfl
 f119:=Tryz.func253.trans (congrArg some (by kernel_rfl))
 f137:=Tryz.func252.trans (congrArg some (by kernel_rfl))
 f151:=Tryz.func200.trans (congrArg some (by kernel_rfl))
 f152:=Tryz.func232.trans (congrArg some (by kernel_rfl))
 f161:=Tryz.func173.trans (congrArg some (by kernel_rfl))
 f197:=Tryz.func199.trans (congrArg some (by kernel_rfl))
 f217:=Tryz.func241.trans (congrArg some (by kernel_rfl))
 f224:=Tryz.func243.trans (congrArg some (by kernel_rfl))
 f225:=Tryz.func242.trans (congrArg some (by kernel_rfl))
 f227:=Tryz.func143.trans (congrArg some (by kernel_rfl))
 f228:=Tryz.func198.trans (congrArg some (by kernel_rfl))
 f231:=Tryz.func141.trans (congrArg some (by kernel_rfl))
 f233:=Tryz.func144.trans (congrArg some (by kernel_rfl))
 f235:=Tryz.func146.trans (congrArg some (by kernel_rfl))
 f260:=Tryz.func231.trans (congrArg some (by kernel_rfl))
 f266:=Tryz.func254.trans (congrArg some (by kernel_rfl))
 t0:=Tryz.underlying0
 a0:=Tryz.isAgg0
 z0:=Tryz.sizeOf0
 v0:=Tryz.zeroValue0
 t3:=Tryz.underlying3
 a3:=Tryz.isAgg3
 z3:=Tryz.sizeOf3
 v3:=Tryz.zeroValue3
 t4:=Tryz.underlying4
 a4:=Tryz.isAgg4
 z4:=Tryz.sizeOf4
 v4:=Tryz.zeroValue4
 t5:=Tryz.underlying5
 a5:=Tryz.isAgg5
 z5:=Tryz.sizeOf5
 v5:=Tryz.zeroValue5
 t9:=Tryz.underlying9
 a9:=Tryz.isAgg9
 z9:=Tryz.sizeOf9
 v9:=Tryz.zeroValue9
 t21:=Tryz.underlying21
 a21:=Tryz.isAgg21
 z21:=Tryz.sizeOf21
 v21:=Tryz.zeroValue21
 t46:=Tryz.underlying238
 a46:=Tryz.isAgg238
 z46:=Tryz.sizeOf238
 v46:=Tryz.zeroValue238
 t105:=Tryz.underlying242
 a105:=Tryz.isAgg242
 z105:=Tryz.sizeOf242
 v105:=Tryz.zeroValue242
 t116:=Tryz.underlying184
 a116:=Tryz.isAgg184
 z116:=Tryz.sizeOf184
 t117:=Tryz.underlying185
 a117:=Tryz.isAgg185
 z117:=Tryz.sizeOf185
 v117:=Tryz.zeroValue185
 t119:=Tryz.underlying281
 a119:=Tryz.isAgg281
 z119:=Tryz.sizeOf281
 t124:=Tryz.underlying188
 a124:=Tryz.isAgg188
 z124:=Tryz.sizeOf188
 v124:=Tryz.zeroValue188
 t138:=Tryz.underlying283
 a138:=Tryz.isAgg283
 z138:=Tryz.sizeOf283
 v138:=Tryz.zeroValue283
 t139:=Tryz.underlying284
 a139:=Tryz.isAgg284
 z139:=Tryz.sizeOf284
 v139:=Tryz.zeroValue284
 g3:=by kernel_rfl
 g4:=by kernel_rfl }
def Tryz.lays145_ren:Go.Shelf.Ren:=⟨fun|145=>119|220=>171|219=>212|217=>241|225=>242|224=>243|267=>244|266=>254|314=>255|n=>n,fun|9=>9|4=>4|59=>168|3=>3|5=>5|46=>238|146=>286|51=>233|n=>n,fun|1=>4|n=>n⟩
theorem Tryz.lays145:Go.Proofs.Lays.n145 Tryz.prog Tryz.lays145_ren:={
 mixed:=by kernel_rfl
 f145:=Tryz.func119.trans (congrArg some (by kernel_rfl))
 f217:=Tryz.func241.trans (congrArg some (by kernel_rfl))
 f219:=Tryz.func212.trans (congrArg some (by kernel_rfl))
 f220:=Tryz.func171.trans (congrArg some (by kernel_rfl))
 f224:=Tryz.func243.trans (congrArg some (by kernel_rfl))
 f225:=Tryz.func242.trans (congrArg some (by kernel_rfl))
 f266:=Tryz.func254.trans (congrArg some (by kernel_rfl))
 f267:=Tryz.func244.trans (congrArg some (by kernel_rfl))
 f314:=Tryz.func255.trans (congrArg some (by kernel_rfl))
 t3:=Tryz.underlying3
 a3:=Tryz.isAgg3
 z3:=Tryz.sizeOf3
 v3:=Tryz.zeroValue3
 t4:=Tryz.underlying4
 a4:=Tryz.isAgg4
 z4:=Tryz.sizeOf4
 v4:=Tryz.zeroValue4
 t5:=Tryz.underlying5
 a5:=Tryz.isAgg5
 z5:=Tryz.sizeOf5
 v5:=Tryz.zeroValue5
 t9:=Tryz.underlying9
 a9:=Tryz.isAgg9
 z9:=Tryz.sizeOf9
 v9:=Tryz.zeroValue9
 t46:=Tryz.underlying238
 a46:=Tryz.isAgg238
 z46:=Tryz.sizeOf238
 v46:=Tryz.zeroValue238
 t51:=Tryz.underlying233
 a51:=Tryz.isAgg233
 z51:=Tryz.sizeOf233
 v51:=Tryz.zeroValue233
 t59:=Tryz.underlying168
 a59:=Tryz.isAgg168
 z59:=Tryz.sizeOf168
 v59:=Tryz.zeroValue168
 t146:=Tryz.underlying286
 a146:=Tryz.isAgg286
 z146:=Tryz.sizeOf286
 v146:=Tryz.zeroValue286
 g1:=by kernel_rfl }
def Tryz.lays103_ren:Go.Shelf.Ren:=⟨fun|103=>118|210=>170|206=>139|n=>n,fun|9=>9|4=>4|24=>166|3=>3|n=>n,fun|n=>n⟩
theorem Tryz.lays103:Go.Proofs.Lays.n103 Tryz.prog Tryz.lays103_ren:={
 mixed:=by kernel_rfl
 f103:=Tryz.func118.trans (congrArg some (by kernel_rfl))
 f206:=Tryz.func139.trans (congrArg some (by kernel_rfl))
 f210:=Tryz.func170.trans (congrArg some (by kernel_rfl))
 t3:=Tryz.underlying3
 a3:=Tryz.isAgg3
 z3:=Tryz.sizeOf3
 v3:=Tryz.zeroValue3
 t4:=Tryz.underlying4
 a4:=Tryz.isAgg4
 z4:=Tryz.sizeOf4
 v4:=Tryz.zeroValue4
 t9:=Tryz.underlying9
 a9:=Tryz.isAgg9
 z9:=Tryz.sizeOf9
 v9:=Tryz.zeroValue9
 t24:=Tryz.underlying166
 a24:=Tryz.isAgg166
 z24:=Tryz.sizeOf166
 v24:=Tryz.zeroValue166 }
def Tryz.lays134_ren:Go.Shelf.Ren:=⟨fun|134=>217|129=>245|n=>n,fun|53=>190|3=>3|4=>4|46=>238|5=>5|9=>9|n=>n,fun|n=>n⟩
theorem Tryz.lays134:Go.Proofs.Lays.n134 Tryz.prog Tryz.lays134_ren:={
 mixed:=by kernel_rfl
 f129:=Tryz.func245.trans (congrArg some (by kernel_rfl))
 f134:=Tryz.func217.trans (congrArg some (by kernel_rfl))
 t3:=Tryz.underlying3
 a3:=Tryz.isAgg3
 z3:=Tryz.sizeOf3
 v3:=Tryz.zeroValue3
 t4:=Tryz.underlying4
 a4:=Tryz.isAgg4
 z4:=Tryz.sizeOf4
 v4:=Tryz.zeroValue4
 t5:=Tryz.underlying5
 a5:=Tryz.isAgg5
 z5:=Tryz.sizeOf5
 v5:=Tryz.zeroValue5
 t9:=Tryz.underlying9
 a9:=Tryz.isAgg9
 z9:=Tryz.sizeOf9
 v9:=Tryz.zeroValue9
 t46:=Tryz.underlying238
 a46:=Tryz.isAgg238
 z46:=Tryz.sizeOf238
 v46:=Tryz.zeroValue238
 t53:=Tryz.underlying190
 a53:=Tryz.isAgg190
 z53:=Tryz.sizeOf190
 v53:=Tryz.zeroValue190 }
def Tryz.lays264_ren:Go.Shelf.Ren:=⟨fun|264=>226|n=>n,fun|53=>190|46=>238|n=>n,fun|n=>n⟩
theorem Tryz.lays264:Go.Proofs.Lays.n264 Tryz.prog Tryz.lays264_ren:={
 mixed:=by kernel_rfl
 f264:=Tryz.func226.trans (congrArg some (by kernel_rfl))
 t46:=Tryz.underlying238
 a46:=Tryz.isAgg238
 z46:=Tryz.sizeOf238
 v46:=Tryz.zeroValue238
 t53:=Tryz.underlying190
 a53:=Tryz.isAgg190
 z53:=Tryz.sizeOf190
 v53:=Tryz.zeroValue190 }
def Tryz.lays25_ren:Go.Shelf.Ren:=⟨fun|25=>223|n=>n,fun|22=>190|n=>n,fun|n=>n⟩
theorem Tryz.lays25:Go.Proofs.Lays7.n25 Tryz.prog Tryz.lays25_ren:={
 mixed:=by kernel_rfl
 f25:=Tryz.func223.trans (congrArg some (by kernel_rfl))
 t22:=Tryz.underlying190
 a22:=Tryz.isAgg190
 z22:=Tryz.sizeOf190
 v22:=Tryz.zeroValue190
 i22:=by kernel_rfl }
def Tryz.lays26_ren:Go.Shelf.Ren:=⟨fun|26=>225|n=>n,fun|22=>190|n=>n,fun|n=>n⟩
theorem Tryz.lays26:Go.Proofs.Lays7.n26 Tryz.prog Tryz.lays26_ren:={
 mixed:=by kernel_rfl
 f26:=Tryz.func225.trans (congrArg some (by kernel_rfl))
 t22:=Tryz.underlying190
 a22:=Tryz.isAgg190
 z22:=Tryz.sizeOf190
 v22:=Tryz.zeroValue190
 i22:=by kernel_rfl }
end Go.Proofs
namespace Go.Proofs.YtkkadnoecklepaaGreatDoor
open Go.RowKit
open Go.Proofs.Tryz
set_option linter.unusedSimpArgs false
set_option linter.unusedVariables false
set_option maxHeartbeats 8000000
set_option maxRecDepth 1000000
theorem Qko(s p:Vs)(w:Vz):
 Calls prog 85 #[.string s,.string p] w fun e a=>e=.returned (.bool (Lib.hasPrefix s.data.toList p.data.toList))/\a=w:=Any.strings_HasPrefix Tryz.lays99 s p w
theorem Qkp(s a:Vs)(n:Nat)(m:Int)(w:Vz)(c:s.size<4294967281)(d:w.cell? ⟨4,0,none⟩=some (.int .i64 m))(f:1<=a.size)(g:1<=n)(b:n<=9223372036854775807):
 Calls prog 86 #[.string s,.string a,.int .i64 n] w fun e h=>
  e=.returned (.slice (some ⟨w.heap.size,0,none⟩) (Lib.splitB a 0 (min n (s.size+1) - 1) s).length (min n (s.size+1)))/\h=w.alloc (.cells (Lib.cellsOf (Lib.splitB a 0 (min n (s.size+1) - 1) s) (min n (s.size+1))) 9):=Any.strings_SplitN Tryz.lays147 (by kernel_rfl) s a n m w c d f g b
theorem Qgn(s a:Vs)(w:Vz)(f:s.size<=9223372036854775807)(d:a.size<4294967281)(c:∀(j:Nat) b,a.data.toList[j]?=some b->b.toNat<128):
 Calls prog 88 #[.string s,.string a] w fun e g=>e=.returned (.string ⟨(Lib.trimS s.data.toList a.data.toList).toArray⟩)/\Below w.heap.size w g:=Any.strings_Trim_laid Tryz.lays160 (by kernel_rfl) s a w f d c
theorem Qkq{p:UInt8->Bool}{l:Vu}{c:UInt8}(h:c∈ l.takeWhile p):p c=true:=by
 induction l with
 |nil=>simp at h
 |cons d l b=>
  rw[List.takeWhile_cons] at h;by_cases a:p d=true
  .
   rw[if_pos a] at h;rcases List.mem_cons.1 h with rfl|h
   . exact a
   . exact b h
  . rw[if_neg a] at h;cases h
theorem Qth{p:UInt8->Bool}{l:Vu}(h:∀c,c∈ l->p c=true):l.dropWhile p= []:=by
 induction l with
 |nil=>rfl
 |cons d l a=>
  rw[List.dropWhile_cons,if_pos (h d (List.mem_cons_self ..))];exact a fun c b=>h c (List.mem_cons_of_mem _ b)
theorem Qkr(l a:Vu):Lib.trimS l a= []↔∀c,c∈ l->a.contains c=true:=by
 unfold Lib.trimS Lib.trimLeftS Lib.trimRightS;constructor
 .
  intro h c e;apply bC;intro f;have d:c∈ (l.reverse.dropWhile (a.contains ·)).reverse:=by
   rw[List.mem_reverse];have b:c∈ l.reverse:=List.mem_reverse.2 e;rw[<-List.takeWhile_append_dropWhile (p:=(a.contains ·)) (l:=l.reverse)] at b;rcases List.mem_append.1 b with b|b
   . have:=Qkq (p:=(a.contains ·)) b
     exact absurd this f
   . exact b
  rw[<-List.takeWhile_append_dropWhile (p:=(a.contains ·)) (l:=(l.reverse.dropWhile (a.contains ·)).reverse),h,List.append_nil] at d;exact absurd (Qkq (p:=(a.contains ·)) d) f
 .
  intro h;have d:l.reverse.dropWhile (a.contains ·)= []:=by
   exact Qth fun c e=>h c (List.mem_reverse.1 e)
  rw[d];rfl
theorem Qks(c:UInt8):([48,49,50,51,52,53,54,55,56,57]:List UInt8).contains c=true↔48<=c.toNat/\c.toNat<=57:=by
 constructor
 .
  intro h;simp at h;rcases h with rfl|rfl|rfl|rfl|rfl|rfl|rfl|rfl|rfl|rfl<;>decide
 .
  rintro⟨a,b⟩;have:c=UInt8.ofNat c.toNat:=by simp
  rw[this];generalize c.toNat=n at*;have:n=48∨n=49∨n=50∨n=51∨n=52∨n=53∨n=54∨n=55∨n=56∨n=57:=by omega
  rcases this with rfl|rfl|rfl|rfl|rfl|rfl|rfl|rfl|rfl|rfl<;>decide
theorem Qti(l:Vu):Lib.trimS l [48,49,50,51,52,53,54,55,56,57]= []↔AllDigits l:=by
 rw[Qkr];exact⟨fun h c a=>(Qks c).1 (h c a),fun h c a=>(Qks c).2 (h c a)⟩
theorem Qkt(l:Vu)(h:AllDigits l):Lib.trimS l [48]= []↔decVal l=0:=by
 rw[Qkr]
 induction l with
 |nil=>simp[decVal]
 |cons c l b=>
  have m:=h c (List.mem_cons_self ..);have b:=b fun d a=>h d (List.mem_cons_of_mem _ a)
  have e:decVal (c :: l)=(c.toNat - 48)*10 ^ l.length+decVal l:=by
   have:=Qb4 [c] l
   simpa [decVal] using this
  have n:0<10 ^ l.length:=Nat.pow_pos (by decide);rw[e];constructor
  .
   intro f;have g:=b.1 fun d a=>f d (List.mem_cons_of_mem _ a)
   have i:=f c (List.mem_cons_self ..);have j:c=48:=by simpa using i
   rw[g,j];simp
  .
   intro f;have g:decVal l=0:=by omega
   have i:(c.toNat - 48)*10 ^ l.length=0:=by omega
   have j:c.toNat - 48=0:=by
    rcases Nat.mul_eq_zero.1 i with h|h
    . exact h
    . omega
   have k:c=48:=by
    have:c.toNat=48:=by omega
    exact UInt8.toNat_inj.1 this
   intro d a;rcases List.mem_cons.1 a with rfl|a
   . rw[k];rfl
   . exact b.2 g d a
theorem Qtj{s a:Vs}(h:(⟨(Lib.trimS s.data.toList [48,49,50,51,52,53,54,55,56,57]).toArray⟩:ByteArray)=a):a.toList= []↔AllDigits s.data.toList:=by
 subst h;rw[Lib.toList_data];exact Qti _
theorem Qcf(s:Vs)(w:Vz)(m:s.size<=1073741824):
 Calls prog 87 #[.string s] w fun e k=>(∃v,e=.returned (.bool v)/\(v=true↔IsDig s.data.toList))/\Below w.heap.size w k:=by
 have f:=Hi (Lib.toList_data s);by_cases b:s.toList= []
 .
  go_enter func87,ntmps87;go_wp2_with fail;go_ret;exact⟨⟨false,rfl,by rw[<-f.o];simp[IsDig,b]⟩,Below.refl _ _⟩
 .
  go_enter func87,ntmps87;go_wp2_with fail;refine(Qgn s _ _ (by omega) (by decide) (ascii_of_all (by decide))).mono ?_;rintro e w1 ⟨rfl,g⟩;have i:=Hi g;clear g;obtain⟨l,a⟩:=nm ((⟨(Lib.trimS s.data.toList [48,49,50,51,52,53,54,55,56,57]).toArray⟩:ByteArray));rw[show (⟨#[48,49,50,51,52,53,54,55,56,57]⟩:ByteArray).data.toList= [48,49,50,51,52,53,54,55,56,57] from rfl,a];have j:=Hi (Qtj a);clear a;by_cases c:l.toList= []
  .
   go_wp2;go_ret;refine⟨⟨_,rfl,?_⟩,i.o⟩;have d:IsDig s.data.toList:=⟨by rw[<-f.o];exact b,j.o.1 c⟩;simp[b,d]
  .
   go_wp2;go_ret;refine⟨⟨_,rfl,?_⟩,i.o⟩;have d:¬IsDig s.data.toList:=fun h=>c (j.o.2 h.2)
   simp[c,d]
theorem Qku(t:Vs)(k:Nat)(h:(Lib.cut t.data.toList [47]).2.2=false):Lib.splitB ⟨#[47]⟩ 0 k t= [t]/\(Lib.cut t.data.toList [47]).1=t.data.toList:=by
 have a:¬(0<=Lib.index t.data.toList [47]):=by
  intro b;unfold Lib.cut at h;rw[if_pos b] at h;cases h
 constructor
 .
  apply Lib.splitB_miss;have:=Lib.index_ge t.data.toList [47]
  show Lib.index t.data.toList [47]= -1
  omega
 . unfold Lib.cut
   rw[if_neg a]
theorem Qkv(t:Vs)(h:(Lib.cut t.data.toList [47]).2.2=true):1<=t.size/\∃t0 t1:Vs,Lib.splitB ⟨#[47]⟩ 0 1 t= [t0,t1]/\t0.data.toList=(Lib.cut t.data.toList [47]).1/\t1.data.toList=(Lib.cut t.data.toList [47]).2.1/\t0.size<=t.size/\t1.size<=t.size:=by
 have b:0<=Lib.index t.data.toList [47]:=by
  apply bC;intro d;unfold Lib.cut at h;rw[if_neg d] at h;cases h
 have c:=Lib.index_room t.data.toList [47] b;obtain⟨i,a⟩:∃i:Nat,Lib.index t.data.toList [47]=i:=⟨(Lib.index t.data.toList [47]).toNat,by omega⟩;have e:t.data.toList.length=t.size:=by simp
 rw[a] at c;simp at c;refine⟨by omega,t.extract 0 (i+0),t.extract (i+1) t.size,?_,?_,?_,?_,?_⟩
 . rw[Lib.splitB_hit ⟨#[47]⟩ 0 0 t i a];rfl
 .
  rw[Lib.extract_data];unfold Lib.cut;rw[if_pos b,a];simp
 .
  rw[Lib.extract_data];unfold Lib.cut;rw[if_pos b,a];simp;rw[List.take_of_length_le (by simp)]
 . simp;omega
 . simp
theorem Qa2(w:Vz):RatVal (w.alloc (.cells #[.bool false,.slice none 0 0,.bool false,.slice none 0 0] 123)) w.heap.size 0:=
 ⟨0,none,0,[],none,0,[],⟨SB.new w _ _,⟨Row.nil _ _,Num.zero _,by simp⟩,⟨Row.nil _ _,Num.zero _,by simp⟩⟩,.inr ⟨rfl,rfl⟩⟩
theorem Qgo(w:Vz):(Thing.room w.heap.size).holds (w.alloc (.cells #[.bool false,.slice none 0 0,.bool false,.slice none 0 0] 123)):=RatVal.room (Qa2 w)
def NewRat(w:Vz)(q:Rat)(e:Ending)(w':Vz):Prop:=(∃b,e=.returned (.pointer (some ⟨b,0,none⟩))/\w.heap.size<=b/\RatVal w' b q)/\Below w.heap.size w w'
theorem Qcg{s:Vs}(h:IsDig s.data.toList):0<s.size:=by
 have:s.data.toList.length=s.size:=by simp
 have b:s.data.toList.length≠0:=fun a=>h.1 (List.length_eq_zero_iff.1 a)
 omega
theorem Qkw{l:Vu}{a:Vs}(h:(⟨l.toArray⟩:ByteArray)=a):a.toList= []↔l= []:=by
 subst h;rw[Lib.toList_data]
theorem Qch{w c:Vz}{X:Int}{a:Vx}{b:Nat}{l:Vy}(h:Laid (w.alloc (.cells zeroInt 121)) c w.heap.size 0 121 zeroInt X a b l):IntAt c w.heap.size 0 X a b l/\Below w.heap.size w c:=
 ⟨h.at (by simp[zeroInt]),Only.fresh (bR.alloc lZ _) h.only lZ⟩
theorem Qtk(s:Vs)(m:Int)(w:Vz)(hm:w.cell? ⟨4,0,none⟩=some (.int .i64 m))(hs:s.size<=1073741824)(hp:Lib.hasPrefix s.data.toList [45]=false):
 Calls prog 36 #[.string s] w fun e w'=>∃q,QOf s.data.toList q/\NewRat w q e w':=by
 obtain⟨M,Z⟩:=Ia hp (show Lib.trimPrefix s.data.toList [45]=s.data.toList by unfold Lib.trimPrefix;rw[hp];rfl);clear hp;go_enter func36,ntmps36;go_wp2_with fail;refine(Qko s ⟨#[45]⟩ w).mono ?_;rw[show (⟨#[45]⟩:ByteArray).data.toList= [45] from rfl,M.o];rintro e w ⟨rfl,hw⟩;subst hw;go_wp2_with fail;refine(Qkp s ⟨#[47]⟩ 2 m w (by omega) hm (by decide) (by decide) (by decide)).mono ?_;rintro e w1 ⟨rfl,r⟩;by_cases L:(Lib.cut s.data.toList [47]).2.2=true
 .
  obtain⟨h1,t0,t1,v,D,aa,al,am⟩:=Qkv s L;have e2:min 2 (s.size+1)=2:=by omega
  rw[e2,v] at r;rw[e2,v];have E:Bl w w1:=by rw[r];exact(Below.refl _ _).alloc lZ _
  have t:SB w1 w.heap.size 9 #[.string t0,.string t1]:=by rw[r];exact SB.new w _ _
  have l:w1.cell? ⟨w.heap.size,0,none⟩=some (.string t0):=t.cell 0;have c1:w1.cell? ⟨w.heap.size,1,none⟩=some (.string t1):=t.cell 1;have a:=t.lt;obtain⟨x,d,j,b,y,F,B⟩:=If E l c1 (Below.refl w1.heap.size w1) D aa L;clear r t E v e2 D aa L;go_wp2_with fail;refine(Qcf t0 _ (by omega)).mono ?_;rintro e w2 ⟨⟨v0,rfl,G⟩,g⟩;have H:=Hi G;clear G;have c:=Hi (b.o.trans (g.mono b.o.size));clear b l c1;have b:=c;clear c g;obtain⟨l,c1⟩:=Ja b.o a d.o j.o;have f:=fun o=>ce (b.o.alloc b.o.size o) a d.o
  have n:=fun o=>ce (b.o.alloc b.o.size o) a j.o
  cases v0
  .
   have z:O (¬QForm s.data.toList):=Hi (fun h=>Bool.false_ne_true (H.o.2 (by rw[y.o];exact h.1)));go_wp2;go_ret;have i:=x.o.trans (b.o.mono (Nat.le_of_lt a));exact⟨_,⟨0,by rw[Z.o];exact .inr ⟨z.o,rfl⟩,by rw[M.o];rfl⟩,⟨_,rfl,i.size,Qa2 _⟩,i.alloc i.size _⟩
  .
   go_wp2_with fail;refine(Qcf t1 _ (by omega)).mono ?_;rintro e w3 ⟨⟨v1,rfl,ab⟩,g⟩;have ae:=Hi ab;clear ab;have c:=Hi (b.o.trans (g.mono b.o.size));clear b l c1 f n;have b:=c;clear c g;obtain⟨l,c1⟩:=Ja b.o a d.o j.o;have f:=fun o=>ce (b.o.alloc b.o.size o) a d.o
   have n:=fun o=>ce (b.o.alloc b.o.size o) a j.o
   cases v1
   .
    have z:O (¬QForm s.data.toList):=Hi (fun h=>Bool.false_ne_true (ae.o.2 (by rw[F.o];exact(h.2 B.o).1)));go_wp2;go_ret;have i:=x.o.trans (b.o.mono (Nat.le_of_lt a));exact⟨_,⟨0,by rw[Z.o];exact .inr ⟨z.o,rfl⟩,by rw[M.o];rfl⟩,⟨_,rfl,i.size,Qa2 _⟩,i.alloc i.size _⟩
   .
    go_wp2_with fail;refine(Qgn t1 _ _ (by omega) (by decide) (ascii_of_all (by decide))).mono ?_;rintro e w4 ⟨rfl,g⟩;obtain⟨st,u⟩:=nm ((⟨(Lib.trimS t1.data.toList [48]).toArray⟩:ByteArray));rw[show (⟨#[48]⟩:ByteArray).data.toList= [48] from rfl,u];obtain⟨p,I⟩:=Ia (H.o.1 (by first|rfl|trivial)) (ae.o.1 (by first|rfl|trivial));have HI:=Hi ((Qkw u).trans (Qkt t1.data.toList I.o.2));clear u;have c:=Hi (b.o.trans (g.mono b.o.size));clear b l c1 f n;have b:=c;clear c g;obtain⟨l,c1⟩:=Ja b.o a d.o j.o;have f:=fun o=>ce (b.o.alloc b.o.size o) a d.o
    have n:=fun o=>ce (b.o.alloc b.o.size o) a j.o
    by_cases u:st.toList= []
    .
     have ai:st.toList.isEmpty=true:=by simp[u]
     have z:O (¬QForm s.data.toList):=Hi (fun h=>(h.2 B.o).2 (by rw[<-F.o];exact HI.o.1 u));go_wp2;go_ret;have i:=x.o.trans (b.o.mono (Nat.le_of_lt a));exact⟨_,⟨0,by rw[Z.o];exact .inr ⟨z.o,rfl⟩,by rw[M.o];rfl⟩,⟨_,rfl,i.size,Qa2 _⟩,i.alloc i.size _⟩
    .
     have ai:st.toList.isEmpty=false:=by simp[u]
     have af:=Hi (fun h=>u (HI.o.2 h));go_wp2_with fail;refine(Qcb _ t0 _ (SB.new _ _ _) (Qcg p.o) (by omega) p.o.2).mono ?_;rintro e w5 ⟨rfl,an,cn,ln,hl⟩;obtain⟨N,g⟩:=Qch hl;have P:ln.length<1099511627770:=by
      have h1:=N.num.len_dec (k:=t0.size) (by rw[Int.natAbs_natCast];have:=Qa0 _ p.o.2;simpa using this);omega
     have HN:=Hi N;clear N hl;have c:=Hi (b.o.trans (g.mono b.o.size));clear b l c1 f n;have b:=c;clear c g;obtain⟨l,c1⟩:=Ja b.o a d.o j.o;have f:=fun o=>ce (b.o.alloc b.o.size o) a d.o
     have n:=fun o=>ce (b.o.alloc b.o.size o) a j.o
     go_wp2_with fail;refine(Qbu 1 _ (by decide) (by decide)).mono ?_;rintro e w6 ⟨⟨b6,a6,aj,l6,rfl,J,C,K⟩,g⟩;have ag:=Hi (HN.o.below g);clear HN J C K;have c:=Hi (b.o.trans (g.mono b.o.size));clear b l c1 f n;have b:=c;clear c g;obtain⟨l,c1⟩:=Ja b.o a d.o j.o;have f:=fun o=>ce (b.o.alloc b.o.size o) a d.o
     have n:=fun o=>ce (b.o.alloc b.o.size o) a j.o
     go_wp2_with fail;refine(Qcb _ t1 _ (SB.new _ _ _) (Qcg I.o) (by omega) I.o.2).mono ?_;rintro e w7 ⟨rfl,ad,cd,ld,hl⟩;obtain⟨Q,g⟩:=Qch hl;have R:ld.length<1099511627770:=by
      have h1:=Q.num.len_dec (k:=t1.size) (by rw[Int.natAbs_natCast];have:=Qa0 _ I.o.2;simpa using this);omega
     obtain⟨HD,HN⟩:=Ia Q (ag.o.below g);have S:O ((0:Int)<(decVal t1.data.toList:Nat)):=Hi (Int.natCast_pos.2 (Nat.pos_of_ne_zero af.o));have T:O (mkRat ((decVal t0.data.toList:Nat):Int) ((decVal t1.data.toList:Nat):Int).natAbs=mkRat (decVal (Lib.cut s.data.toList [47]).1:Nat) (if (Lib.cut s.data.toList [47]).2.2=true then decVal (Lib.cut s.data.toList [47]).2.1 else 1)):=Hi (by rw[Int.natAbs_natCast,y.o,F.o,if_pos B.o]);clear Q hl ag;have c:=Hi (b.o.trans (g.mono b.o.size));clear b l c1 f n;have b:=c;clear c g;obtain⟨l,c1⟩:=Ja b.o a d.o j.o;have f:=fun o=>ce (b.o.alloc b.o.size o) a d.o
     have n:=fun o=>ce (b.o.alloc b.o.size o) a j.o
     go_wp2_with fail;have U:O (QForm s.data.toList):=Hi ⟨by rw[<-y.o];exact p.o,fun _=>⟨by rw[<-F.o];exact I.o,by rw[<-F.o];exact af.o⟩⟩;refine(Qce _ _ _ _ _ _ 0 _ an cn ln _ 0 _ ad cd ld _ (SB.new _ _ _) (Qan _ _ _ _ _ _ _ _) (HN.o.alloc _) (HD.o.alloc _) S.o P R).mono ?_;rintro e w8 A;have i:=x.o.trans (b.o.mono (Nat.le_of_lt a));have V:=i.size;obtain⟨HV,W⟩:=Ia A.val (Only.fresh (i.alloc i.size _) A.2.1 i.size);obtain⟨rfl,X,hr⟩:=A;clear X hr i;go_wp2;go_ret;exact⟨_,⟨_,by rw[Z.o];exact .inl ⟨U.o,T.o⟩,by rw[M.o];rfl⟩,⟨_,rfl,V,HV.o⟩,W.o⟩
 .
  have L:(Lib.cut s.data.toList [47]).2.2=false:=by simpa using L
  obtain⟨v,D⟩:=Qku s (min 2 (s.size+1) - 1) L;obtain⟨cp,Y,ak⟩:∃cp,min 2 (s.size+1)=cp/\1<=cp:=⟨_,rfl,by omega⟩;rw[v,Y] at r;rw[v,Y];have E:Bl w w1:=by rw[r];exact(Below.refl _ _).alloc lZ _
  have t:SB w1 w.heap.size 9 (Lib.cellsOf [s] cp):=by rw[r];exact SB.new w _ _
  have l:w1.cell? ⟨w.heap.size,0,none⟩=some (.string s):=t.cell 0;have c1:=l;have a:=t.lt;obtain⟨x,d,b,y,B⟩:=Id E l (Below.refl w1.heap.size w1) D L;clear r t E v D L Y c1;rw[show [s].length=1 from rfl];go_wp2_with fail;refine(Qcf s _ (by omega)).mono ?_;rintro e w2 ⟨⟨v0,rfl,G⟩,g⟩;have H:=Hi G;clear G;have c:=Hi (b.o.trans (g.mono b.o.size));clear b l;have b:=c;clear c g;have l:=ce b.o a d.o;have f:=fun o=>ce (b.o.alloc b.o.size o) a d.o
  cases v0
  .
   have z:O (¬QForm s.data.toList):=Hi (fun h=>Bool.false_ne_true (H.o.2 (by rw[<-y.o];exact h.1)));go_wp2;go_ret;have i:=x.o.trans (b.o.mono (Nat.le_of_lt a));exact⟨_,⟨0,by rw[Z.o];exact .inr ⟨z.o,rfl⟩,by rw[M.o];rfl⟩,⟨_,rfl,i.size,Qa2 _⟩,i.alloc i.size _⟩
  .
   have p:=Hi (H.o.1 (by first|rfl|trivial));go_wp2_with fail;refine(Qcb _ s _ (SB.new _ _ _) (Qcg p.o) (by omega) p.o.2).mono ?_;rintro e w5 ⟨rfl,an,cn,ln,hl⟩;obtain⟨N,g⟩:=Qch hl;have P:ln.length<1099511627770:=by
    have h1:=N.num.len_dec (k:=s.size) (by rw[Int.natAbs_natCast];have:=Qa0 _ p.o.2;simpa using this);omega
   have ah:=Hi N;clear N hl;have c:=Hi (b.o.trans (g.mono b.o.size));clear b l f;have b:=c;clear c g;have l:=ce b.o a d.o;have f:=fun o=>ce (b.o.alloc b.o.size o) a d.o
   go_wp2_with fail;refine(Qbu 1 _ (by decide) (by decide)).mono ?_;rintro e w6 ⟨⟨b6,ad,cd,ld,rfl,J,C,K⟩,g⟩;have HN:=Hi (ah.o.below g);have Q:IntAt w6 b6 0 1 ad cd ld:=⟨by rw[C.cell];rfl,by rw[C.cell];rfl,K,C.lt⟩;have R:ld.length<1099511627770:=by
    have:=Q.num.len_bits (k:=1) (by decide);omega
   have HD:=Hi Q;have S:O ((0:Int)<1):=Hi (by decide);have T:O (mkRat ((decVal s.data.toList:Nat):Int) (1:Int).natAbs=mkRat (decVal (Lib.cut s.data.toList [47]).1:Nat) (if (Lib.cut s.data.toList [47]).2.2=true then decVal (Lib.cut s.data.toList [47]).2.1 else 1)):=Hi (by rw[y.o,B.o];rfl);clear Q ah J C K;have c:=Hi (b.o.trans (g.mono b.o.size));clear b l f;have b:=c;clear c g;have l:=ce b.o a d.o;have f:=fun o=>ce (b.o.alloc b.o.size o) a d.o
   go_wp2_with fail;have U:O (QForm s.data.toList):=Hi ⟨by rw[y.o];exact p.o,fun h=>by rw[B.o] at h;cases h⟩;refine(Qce _ _ _ _ _ _ 0 _ an cn ln _ 0 _ ad cd ld _ (SB.new _ _ _) (Qan _ _ _ _ _ _ _ _) (HN.o.alloc _) (HD.o.alloc _) S.o P R).mono ?_;rintro e w8 A;have i:=x.o.trans (b.o.mono (Nat.le_of_lt a));have V:=i.size;obtain⟨HV,W⟩:=Ia A.val (Only.fresh (i.alloc i.size _) A.2.1 i.size);obtain⟨rfl,X,hr⟩:=A;clear X hr i;go_wp2;go_ret;exact⟨_,⟨_,by rw[Z.o];exact .inl ⟨U.o,T.o⟩,by rw[M.o];rfl⟩,⟨_,rfl,V,HV.o⟩,W.o⟩
theorem Qtl(s:Vs)(m:Int)(w:Vz)(hm:w.cell? ⟨4,0,none⟩=some (.int .i64 m))(hs:s.size<=1073741824)(hp:Lib.hasPrefix s.data.toList [45]=true):
 Calls prog 36 #[.string s] w fun e w'=>∃q,QOf s.data.toList q/\NewRat w q e w':=by
 have T:=Hi hp;have h1:1<=s.size:=by
  have ag:s.data.toList.length=s.size:=by simp
  cases hl:s.data.toList with
  |nil=>rw[hl] at hp;simp[Lib.hasPrefix] at hp
  |cons c l=>rw[hl] at ag;simp at ag;omega
 obtain⟨t,ht⟩:=nm (s.extract 1 s.size);have HT:=Hi (show Lib.trimPrefix s.data.toList [45]=t.data.toList by
  rw[<-ht,Lib.extract_data];unfold Lib.trimPrefix;rw[if_pos hp,List.take_of_length_le (by simp)]
  rfl)
 have au:t.size<=1073741824:=by rw[<-ht];simp;omega
 have ao:=Hi ht;clear hp ht;go_enter func36,ntmps36;go_wp2_with fail;refine(Qko s ⟨#[45]⟩ w).mono ?_;rw[show (⟨#[45]⟩:ByteArray).data.toList= [45] from rfl,T.o];rintro e w ⟨rfl,hw⟩;subst hw;go_wp2_with fail;rw[ao.o];clear h1;refine(Qkp t ⟨#[47]⟩ 2 m w (by omega) hm (by decide) (by decide) (by decide)).mono ?_;rintro e w1 ⟨rfl,x⟩;by_cases S:(Lib.cut t.data.toList [47]).2.2=true
 .
  obtain⟨h1,t0,t1,A,H,ah,av,aw⟩:=Qkv t S;have e2:min 2 (t.size+1)=2:=by omega
  rw[e2,A] at x;rw[e2,A];have I:Bl w w1:=by rw[x];exact(Below.refl _ _).alloc lZ _
  have y:SB w1 w.heap.size 9 #[.string t0,.string t1]:=by rw[x];exact SB.new w _ _
  have r:w1.cell? ⟨w.heap.size,0,none⟩=some (.string t0):=y.cell 0;have c1:w1.cell? ⟨w.heap.size,1,none⟩=some (.string t1):=y.cell 1;have a:=y.lt;obtain⟨B,f,p,b,C,J,F⟩:=If I r c1 (Below.refl w1.heap.size w1) H ah S;clear x y I A e2 H ah S;go_wp2_with fail;refine(Qcf t0 _ (by omega)).mono ?_;rintro e w2 ⟨⟨v0,rfl,K⟩,j⟩;have L:=Hi K;clear K;have d:=Hi (b.o.trans (j.mono b.o.size));clear b r c1;have b:=d;clear d j;obtain⟨r,c1⟩:=Ja b.o a f.o p.o;have g:=fun o=>ce (b.o.alloc b.o.size o) a f.o
  have u:=fun o=>ce (b.o.alloc b.o.size o) a p.o
  cases v0
  .
   have D:O (¬QForm t.data.toList):=Hi (fun h=>Bool.false_ne_true (L.o.2 (by rw[C.o];exact h.1)));go_wp2;go_ret;have n:=B.o.trans (b.o.mono (Nat.le_of_lt a));exact⟨_,⟨0,by rw[HT.o];exact .inr ⟨D.o,rfl⟩,by rw[T.o];rfl⟩,⟨_,rfl,n.size,Qa2 _⟩,n.alloc n.size _⟩
  .
   go_wp2_with fail;refine(Qcf t1 _ (by omega)).mono ?_;rintro e w3 ⟨⟨v1,rfl,ai⟩,j⟩;have aj:=Hi ai;clear ai;have d:=Hi (b.o.trans (j.mono b.o.size));clear b r c1 g u;have b:=d;clear d j;obtain⟨r,c1⟩:=Ja b.o a f.o p.o;have g:=fun o=>ce (b.o.alloc b.o.size o) a f.o
   have u:=fun o=>ce (b.o.alloc b.o.size o) a p.o
   cases v1
   .
    have D:O (¬QForm t.data.toList):=Hi (fun h=>Bool.false_ne_true (aj.o.2 (by rw[J.o];exact(h.2 F.o).1)));go_wp2;go_ret;have n:=B.o.trans (b.o.mono (Nat.le_of_lt a));exact⟨_,⟨0,by rw[HT.o];exact .inr ⟨D.o,rfl⟩,by rw[T.o];rfl⟩,⟨_,rfl,n.size,Qa2 _⟩,n.alloc n.size _⟩
   .
    go_wp2_with fail;refine(Qgn t1 _ _ (by omega) (by decide) (ascii_of_all (by decide))).mono ?_;rintro e w4 ⟨rfl,j⟩;obtain⟨st,z⟩:=nm ((⟨(Lib.trimS t1.data.toList [48]).toArray⟩:ByteArray));rw[show (⟨#[48]⟩:ByteArray).data.toList= [48] from rfl,z];obtain⟨v,M⟩:=Ia (L.o.1 (by first|rfl|trivial)) (aj.o.1 (by first|rfl|trivial));have HI:=Hi ((Qkw z).trans (Qkt t1.data.toList M.o.2));clear z;have d:=Hi (b.o.trans (j.mono b.o.size));clear b r c1 g u;have b:=d;clear d j;obtain⟨r,c1⟩:=Ja b.o a f.o p.o;have g:=fun o=>ce (b.o.alloc b.o.size o) a f.o
    have u:=fun o=>ce (b.o.alloc b.o.size o) a p.o
    by_cases z:st.toList= []
    .
     have ap:st.toList.isEmpty=true:=by simp[z]
     have D:O (¬QForm t.data.toList):=Hi (fun h=>(h.2 F.o).2 (by rw[<-J.o];exact HI.o.1 z));go_wp2;go_ret;have n:=B.o.trans (b.o.mono (Nat.le_of_lt a));exact⟨_,⟨0,by rw[HT.o];exact .inr ⟨D.o,rfl⟩,by rw[T.o];rfl⟩,⟨_,rfl,n.size,Qa2 _⟩,n.alloc n.size _⟩
    .
     have ap:st.toList.isEmpty=false:=by simp[z]
     have ak:=Hi (fun h=>z (HI.o.2 h));go_wp2_with fail;refine(Qcb _ t0 _ (SB.new _ _ _) (Qcg v.o) (by omega) v.o.2).mono ?_;rintro e w5 ⟨rfl,an,cn,ln,hl⟩;obtain⟨U,j⟩:=Qch hl;have V:ln.length<1099511627770:=by
      have h1:=U.num.len_dec (k:=t0.size) (by rw[Int.natAbs_natCast];have:=Qa0 _ v.o.2;simpa using this);omega
     have HN:=Hi U;clear U hl;have d:=Hi (b.o.trans (j.mono b.o.size));clear b r c1 g u;have b:=d;clear d j;obtain⟨r,c1⟩:=Ja b.o a f.o p.o;have g:=fun o=>ce (b.o.alloc b.o.size o) a f.o
     have u:=fun o=>ce (b.o.alloc b.o.size o) a p.o
     go_wp2_with fail;refine(Qbu 1 _ (by decide) (by decide)).mono ?_;rintro e w6 ⟨⟨b6,a6,aq,l6,rfl,N,G,R⟩,j⟩;have al:=Hi (HN.o.below j);clear HN N G R;have d:=Hi (b.o.trans (j.mono b.o.size));clear b r c1 g u;have b:=d;clear d j;obtain⟨r,c1⟩:=Ja b.o a f.o p.o;have g:=fun o=>ce (b.o.alloc b.o.size o) a f.o
     have u:=fun o=>ce (b.o.alloc b.o.size o) a p.o
     go_wp2_with fail;refine(Qcb _ t1 _ (SB.new _ _ _) (Qcg M.o) (by omega) M.o.2).mono ?_;rintro e w7 ⟨rfl,ad,cd,ld,hl⟩;obtain⟨W,j⟩:=Qch hl;have X:ld.length<1099511627770:=by
      have h1:=W.num.len_dec (k:=t1.size) (by rw[Int.natAbs_natCast];have:=Qa0 _ M.o.2;simpa using this);omega
     obtain⟨HD,HN⟩:=Ia W (al.o.below j);have Y:O ((0:Int)<(decVal t1.data.toList:Nat)):=Hi (Int.natCast_pos.2 (Nat.pos_of_ne_zero ak.o));have Z:O (mkRat ((decVal t0.data.toList:Nat):Int) ((decVal t1.data.toList:Nat):Int).natAbs=mkRat (decVal (Lib.cut t.data.toList [47]).1:Nat) (if (Lib.cut t.data.toList [47]).2.2=true then decVal (Lib.cut t.data.toList [47]).2.1 else 1)):=Hi (by rw[Int.natAbs_natCast,C.o,J.o,if_pos F.o]);clear W hl al;have d:=Hi (b.o.trans (j.mono b.o.size));clear b r c1 g u;have b:=d;clear d j;obtain⟨r,c1⟩:=Ja b.o a f.o p.o;have g:=fun o=>ce (b.o.alloc b.o.size o) a f.o
     have u:=fun o=>ce (b.o.alloc b.o.size o) a p.o
     go_wp2_with fail;have aa:O (QForm t.data.toList):=Hi ⟨by rw[<-C.o];exact v.o,fun _=>⟨by rw[<-J.o];exact M.o,by rw[<-J.o];exact ak.o⟩⟩;refine(Qce _ _ _ _ _ _ 0 _ an cn ln _ 0 _ ad cd ld _ (SB.new _ _ _) (Qan _ _ _ _ _ _ _ _) (HN.o.alloc _) (HD.o.alloc _) Y.o V X).mono ?_;rintro e w8 i;have n:=B.o.trans (b.o.mono (Nat.le_of_lt a));have P:=n.size;obtain⟨HV,Q⟩:=Ia i.val (Only.fresh (n.alloc n.size _) i.2.1 n.size);obtain⟨rfl,E,hr⟩:=i;clear E hr n;go_wp2_with fail;have HQ:O (IsQ (Lib.trimPrefix s.data.toList [45]) _):=Hi (by rw[HT.o];exact .inl ⟨aa.o,Z.o⟩);refine(Qkm _ _ (4*1073741824+1) _ _ (RatVal.room HV.o) HV.o (HQ.o.fits (Nat.le_trans (Qec _ _) (by simpa using hs))) (by decide)).mono ?_;rintro e w9 i;obtain⟨ab,ae⟩:=Ia (Q.o.trans (i.2.1.below P Q.o.size)) i.val
     obtain⟨rfl,E,hr⟩:=i;clear E hr;go_wp2;go_ret;exact⟨_,⟨_,HQ.o,by rw[T.o];rfl⟩,⟨_,rfl,P,ae.o⟩,ab.o⟩
 .
  have S:(Lib.cut t.data.toList [47]).2.2=false:=by simpa using S
  obtain⟨A,H⟩:=Qku t (min 2 (t.size+1) - 1) S;obtain⟨cp,af,ar⟩:∃cp,min 2 (t.size+1)=cp/\1<=cp:=⟨_,rfl,by omega⟩;rw[A,af] at x;rw[A,af];have I:Bl w w1:=by rw[x];exact(Below.refl _ _).alloc lZ _
  have y:SB w1 w.heap.size 9 (Lib.cellsOf [t] cp):=by rw[x];exact SB.new w _ _
  have r:w1.cell? ⟨w.heap.size,0,none⟩=some (.string t):=y.cell 0;have c1:=r;have a:=y.lt;obtain⟨B,f,b,C,F⟩:=Id I r (Below.refl w1.heap.size w1) H S;clear x y I A H S af c1;rw[show [t].length=1 from rfl];go_wp2_with fail;refine(Qcf t _ (by omega)).mono ?_;rintro e w2 ⟨⟨v0,rfl,K⟩,j⟩;have L:=Hi K;clear K;have d:=Hi (b.o.trans (j.mono b.o.size));clear b r;have b:=d;clear d j;have r:=ce b.o a f.o;have g:=fun o=>ce (b.o.alloc b.o.size o) a f.o
  cases v0
  .
   have D:O (¬QForm t.data.toList):=Hi (fun h=>Bool.false_ne_true (L.o.2 (by rw[<-C.o];exact h.1)));go_wp2;go_ret;have n:=B.o.trans (b.o.mono (Nat.le_of_lt a));exact⟨_,⟨0,by rw[HT.o];exact .inr ⟨D.o,rfl⟩,by rw[T.o];rfl⟩,⟨_,rfl,n.size,Qa2 _⟩,n.alloc n.size _⟩
  .
   have v:=Hi (L.o.1 (by first|rfl|trivial));go_wp2_with fail;refine(Qcb _ t _ (SB.new _ _ _) (Qcg v.o) (by omega) v.o.2).mono ?_;rintro e w5 ⟨rfl,an,cn,ln,hl⟩;obtain⟨U,j⟩:=Qch hl;have V:ln.length<1099511627770:=by
    have h1:=U.num.len_dec (k:=t.size) (by rw[Int.natAbs_natCast];have:=Qa0 _ v.o.2;simpa using this);omega
   have am:=Hi U;clear U hl;have d:=Hi (b.o.trans (j.mono b.o.size));clear b r g;have b:=d;clear d j;have r:=ce b.o a f.o;have g:=fun o=>ce (b.o.alloc b.o.size o) a f.o
   go_wp2_with fail;refine(Qbu 1 _ (by decide) (by decide)).mono ?_;rintro e w6 ⟨⟨b6,ad,cd,ld,rfl,N,G,R⟩,j⟩;have HN:=Hi (am.o.below j);have W:IntAt w6 b6 0 1 ad cd ld:=⟨by rw[G.cell];rfl,by rw[G.cell];rfl,R,G.lt⟩;have X:ld.length<1099511627770:=by
    have:=W.num.len_bits (k:=1) (by decide);omega
   have HD:=Hi W;have Y:O ((0:Int)<1):=Hi (by decide);have Z:O (mkRat ((decVal t.data.toList:Nat):Int) (1:Int).natAbs=mkRat (decVal (Lib.cut t.data.toList [47]).1:Nat) (if (Lib.cut t.data.toList [47]).2.2=true then decVal (Lib.cut t.data.toList [47]).2.1 else 1)):=Hi (by rw[C.o,F.o];rfl);clear W am N G R;have d:=Hi (b.o.trans (j.mono b.o.size));clear b r g;have b:=d;clear d j;have r:=ce b.o a f.o;have g:=fun o=>ce (b.o.alloc b.o.size o) a f.o
   go_wp2_with fail;have aa:O (QForm t.data.toList):=Hi ⟨by rw[C.o];exact v.o,fun h=>by rw[F.o] at h;cases h⟩;refine(Qce _ _ _ _ _ _ 0 _ an cn ln _ 0 _ ad cd ld _ (SB.new _ _ _) (Qan _ _ _ _ _ _ _ _) (HN.o.alloc _) (HD.o.alloc _) Y.o V X).mono ?_;rintro e w8 i;have n:=B.o.trans (b.o.mono (Nat.le_of_lt a));have P:=n.size;obtain⟨HV,Q⟩:=Ia i.val (Only.fresh (n.alloc n.size _) i.2.1 n.size);obtain⟨rfl,E,hr⟩:=i;clear E hr n;go_wp2_with fail;have HQ:O (IsQ (Lib.trimPrefix s.data.toList [45]) _):=Hi (by rw[HT.o];exact .inl ⟨aa.o,Z.o⟩);refine(Qkm _ _ (4*1073741824+1) _ _ (RatVal.room HV.o) HV.o (HQ.o.fits (Nat.le_trans (Qec _ _) (by simpa using hs))) (by decide)).mono ?_;rintro e w9 i;obtain⟨ab,ae⟩:=Ia (Q.o.trans (i.2.1.below P Q.o.size)) i.val;obtain⟨rfl,E,hr⟩:=i;clear E hr;go_wp2;go_ret
   exact⟨_,⟨_,HQ.o,by rw[T.o];rfl⟩,⟨_,rfl,P,ae.o⟩,ab.o⟩
theorem Qkx(s:Vs)(m:Int)(w:Vz)(a:w.cell? ⟨4,0,none⟩=some (.int .i64 m))(b:s.size<=1073741824):
 Calls prog 36 #[.string s] w fun e c=>∃q,QOf s.data.toList q/\NewRat w q e c:=by
 cases hp:Lib.hasPrefix s.data.toList [45]
 . exact Qtk s m w a b hp
 . exact Qtl s m w a b hp
end Go.Proofs.YtkkadnoecklepaaGreatDoor
