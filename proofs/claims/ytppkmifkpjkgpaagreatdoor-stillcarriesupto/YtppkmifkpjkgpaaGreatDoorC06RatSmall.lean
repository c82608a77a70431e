import Derived.Test.YtppkmifkpjkgpaaGreatDoorC05RatBag
namespace Go.Proofs.YtppkmifkpjkgpaaGreatDoor
open Go.RowKit
open Go.Proofs.Tryz
set_option linter.unusedSimpArgs false
set_option linter.unusedVariables false
set_option maxHeartbeats 8000000
set_option maxRecDepth 1000000
theorem size_drew(w:Vz):w.drew.heap.size=w.heap.size:=rfl
theorem Qsa(i bx n j k:Nat)(p q:Rat)(w:Vz)(r:(Thing.room i).holds w)(s:RatVal w bx p)(t:RatVal w n q)(u:Fits p j)(v:Fits q k)(A:j+k<274877906000):
 Calls prog 141 #[.pointer (some ⟨i,0,none⟩),.pointer (some ⟨bx,0,none⟩),.pointer (some ⟨n,0,none⟩)] w (RatOk w i (p*q)):=by
 have d:=Qat p;have f:=Qat q;obtain⟨g,x,b⟩:=Ib (Int.mul_pos d f) (Qgi p q) (Bag.two s t r u v);clear s t r u v d f;go_enter func141,ntmps141;go_wp2;go_region_held3 (fun _=>True) (trivial) (first
  |
   (go_at_call 72
    apply cM;apply Bag.mul (w0:=w);(focus(repeat(first|exact b.o|apply Bag.alloc|apply Bag.drew)));(focus(simp only[mem_less,List.mem_cons,List.not_mem_nil,or_false,size_drew,World.size_alloc,true_or,or_true,true_and,and_true]<;>omega));(focus(repeat(first|exact mH|apply mT)));(focus(repeat(first|exact mH|apply mT)));omega;rintro e w1 ⟨rfl,a,c,l⟩;clear b;have b:=Hi a;clear a
    (try simp only[size_drew,World.size_alloc] at c))
  |
   (go_at_call 70
    apply cM;apply Bag.den (w0:=w);(focus(repeat(first|exact b.o|apply Bag.alloc|apply Bag.drew)));(focus(repeat(first|exact mH|apply mT)));rintro e w1 ⟨b1,B,rfl,a,c⟩;clear b;have b:=Hi a;clear a
    (try simp only[size_drew,World.size_alloc] at c))
  |
   (go_at_call 72
    apply cM;apply Bag.mul (w0:=w);(focus(repeat(first|exact b.o|apply Bag.alloc|apply Bag.drew)));(focus(simp only[mem_less,List.mem_cons,List.not_mem_nil,or_false,size_drew,World.size_alloc,true_or,or_true,true_and,and_true]<;>omega));(focus(repeat(first|exact mH|apply mT)));(focus(repeat(first|exact mH|apply mT)));omega;rintro e w1 ⟨rfl,a,c,l⟩;clear b;have b:=Hi a;clear a
    (try simp only[size_drew,World.size_alloc] at c))
  |
   (go_at_call 68
    apply cM;apply Bag.setFrac (w0:=w);(focus(repeat(first|exact b.o|apply Bag.alloc|apply Bag.drew)));(focus(repeat(first|exact mH|apply mT)));(focus(repeat(first|exact mH|apply mT)));(focus(repeat(first|exact mH|apply mT)));exact g.o;omega;omega;rintro e C h;have y:=Hi h;obtain⟨rfl,m,z⟩:=h
    clear b m z)
  )
 all_goals
  go_wp2;go_ret;rw[<-x.o];exact y.o
theorem Qsb(i bx r j k:Nat)(p q:Rat)(w:Vz)(s:(Thing.room i).holds w)(t:RatVal w bx p)(u:RatVal w r q)(v:Fits p j)(x:Fits q k)(B:j+k<274877906000)(d:0<q.num):
 Calls prog 139 #[.pointer (some ⟨i,0,none⟩),.pointer (some ⟨bx,0,none⟩),.pointer (some ⟨r,0,none⟩)] w (RatOk w i (p / q)):=by
 have f:=Qat p;have l:=Qat q;obtain⟨g,y,b⟩:=Ib (Int.mul_pos f d) (Qgj p q d) (Bag.two t u s v x);clear t u s v x f l;go_enter func139,ntmps139;go_wp2;go_region_held3 (fun _=>True) (trivial) (first
  |
   (go_at_call 72
    apply cM;apply Bag.mul (w0:=w);(focus(repeat(first|exact b.o|apply Bag.alloc|apply Bag.drew)));(focus(simp only[mem_less,List.mem_cons,List.not_mem_nil,or_false,size_drew,World.size_alloc,true_or,or_true,true_and,and_true]<;>omega));(focus(repeat(first|exact mH|apply mT)));(focus(repeat(first|exact mH|apply mT)));omega;rintro e w1 ⟨rfl,a,c,m⟩;clear b;have b:=Hi a;clear a
    (try simp only[size_drew,World.size_alloc] at c))
  |
   (go_at_call 70
    apply cM;apply Bag.den (w0:=w);(focus(repeat(first|exact b.o|apply Bag.alloc|apply Bag.drew)));(focus(repeat(first|exact mH|apply mT)));rintro e w1 ⟨b1,C,rfl,a,c⟩;clear b;have b:=Hi a;clear a
    (try simp only[size_drew,World.size_alloc] at c))
  |
   (go_at_call 72
    apply cM;apply Bag.mul (w0:=w);(focus(repeat(first|exact b.o|apply Bag.alloc|apply Bag.drew)));(focus(simp only[mem_less,List.mem_cons,List.not_mem_nil,or_false,size_drew,World.size_alloc,true_or,or_true,true_and,and_true]<;>omega));(focus(repeat(first|exact mH|apply mT)));(focus(repeat(first|exact mH|apply mT)));omega;rintro e w1 ⟨rfl,a,c,m⟩;clear b;have b:=Hi a;clear a
    (try simp only[size_drew,World.size_alloc] at c))
  |
   (go_at_call 68
    apply cM;apply Bag.setFrac (w0:=w);(focus(repeat(first|exact b.o|apply Bag.alloc|apply Bag.drew)));(focus(repeat(first|exact mH|apply mT)));(focus(repeat(first|exact mH|apply mT)));(focus(repeat(first|exact mH|apply mT)));exact g.o;omega;omega;rintro e D h;have z:=Hi h;obtain⟨rfl,n,A⟩:=h
    clear b n A)
  )
 all_goals
  go_wp2;go_ret;rw[<-y.o];exact z.o
theorem Qr3(m bx r j k:Nat)(p q:Rat)(w:Vz)(s:(Thing.room m).holds w)(t:RatVal w bx p)(u:RatVal w r q)(v:Fits p j)(x:Fits q k)(C:j+k<274877906000):
 Calls prog 143 #[.pointer (some ⟨m,0,none⟩),.pointer (some ⟨bx,0,none⟩),.pointer (some ⟨r,0,none⟩)] w (RatOk w m (p+q)):=by
 have h:=Qat p;have i:=Qat q;obtain⟨f,z,b⟩:=Ib (Int.mul_pos h i) (Qeg p q) (Bag.two t u s v x);clear t u s v x h i;go_enter func143,ntmps143;go_wp2;go_region_held3 (fun _=>True) (trivial) (first
  |
   (go_at_call 72
    apply cM;apply Bag.mul (w0:=w);(focus(repeat(first|exact b.o|apply Bag.alloc|apply Bag.drew)));(focus(simp only[mem_less,List.mem_cons,List.not_mem_nil,or_false,size_drew,World.size_alloc,true_or,or_true,true_and,and_true]<;>omega));(focus(repeat(first|exact mH|apply mT)));(focus(repeat(first|exact mH|apply mT)));omega;rintro e w1 ⟨rfl,a,c,l⟩;clear b;have b:=Hi a;clear a
    (try simp only[size_drew,World.size_alloc] at c))
  |
   (go_at_call 70
    apply cM;apply Bag.den (w0:=w);(focus(repeat(first|exact b.o|apply Bag.alloc|apply Bag.drew)));(focus(repeat(first|exact mH|apply mT)));rintro e w1 ⟨b1,A,rfl,a,c⟩;clear b;have b:=Hi a;clear a
    (try simp only[size_drew,World.size_alloc] at c))
  |
   (go_at_call 174
    apply cM;apply Bag.add (w0:=w);(focus(repeat(first|exact b.o|apply Bag.alloc|apply Bag.drew)));(focus(simp only[mem_less,List.mem_cons,List.not_mem_nil,or_false,size_drew,World.size_alloc,true_or,or_true,true_and,and_true]<;>omega));(focus(repeat(first|exact mH|apply mT)));(focus(repeat(first|exact mH|apply mT)));omega;rintro e w1 ⟨rfl,a,c,l⟩;clear b;have b:=Hi a;clear a
    (try simp only[size_drew,World.size_alloc] at c))
  |
   (go_at_call 68
    apply cM;apply Bag.setFrac (w0:=w);(focus(repeat(first|exact b.o|apply Bag.alloc|apply Bag.drew)));(focus(repeat(first|exact mH|apply mT)));(focus(repeat(first|exact mH|apply mT)));(focus(repeat(first|exact mH|apply mT)));exact f.o;omega;omega;rintro e B d;have y:=Hi d;obtain⟨rfl,g,n⟩:=d
    clear b g n)
  )
 all_goals
  go_wp2_with (first
   |
    (go_at_call 70
     apply cM;apply Bag.den (w0:=w);(focus(repeat(first|exact b.o|apply Bag.alloc|apply Bag.drew)));(focus(repeat(first|exact mH|apply mT)));rintro e w1 ⟨b1,A,rfl,a,c⟩;clear b;have b:=Hi a;clear a
     (try simp only[size_drew,World.size_alloc] at c))
   |
    (go_at_call 72
     apply cM;apply Bag.mul (w0:=w);(focus(repeat(first|exact b.o|apply Bag.alloc|apply Bag.drew)));(focus(simp only[mem_less,List.mem_cons,List.not_mem_nil,or_false,size_drew,World.size_alloc,true_or,or_true,true_and,and_true]<;>omega));(focus(repeat(first|exact mH|apply mT)));(focus(repeat(first|exact mH|apply mT)));omega;rintro e w1 ⟨rfl,a,c,l⟩;clear b;have b:=Hi a;clear a
     (try simp only[size_drew,World.size_alloc] at c))
   |
    (go_at_call 68
     apply cM;apply Bag.setFrac (w0:=w);(focus(repeat(first|exact b.o|apply Bag.alloc|apply Bag.drew)));(focus(repeat(first|exact mH|apply mT)));(focus(repeat(first|exact mH|apply mT)));(focus(repeat(first|exact mH|apply mT)));exact f.o;omega;omega;rintro e B d;have y:=Hi d;obtain⟨rfl,g,n⟩:=d
     clear b g n)
   )
  go_ret;rw[<-z.o];exact y.o
theorem Qr4(m bx r j k:Nat)(p q:Rat)(w:Vz)(s:(Thing.room m).holds w)(t:RatVal w bx p)(u:RatVal w r q)(v:Fits p j)(x:Fits q k)(C:j+k<274877906000):
 Calls prog 140 #[.pointer (some ⟨m,0,none⟩),.pointer (some ⟨bx,0,none⟩),.pointer (some ⟨r,0,none⟩)] w (RatOk w m (p - q)):=by
 have h:=Qat p;have i:=Qat q;obtain⟨f,z,b⟩:=Ib (Int.mul_pos h i) (Qr5 p q) (Bag.two t u s v x);clear t u s v x h i;go_enter func140,ntmps140;go_wp2;go_region_held3 (fun _=>True) (trivial) (first
  |
   (go_at_call 72
    apply cM;apply Bag.mul (w0:=w);(focus(repeat(first|exact b.o|apply Bag.alloc|apply Bag.drew)));(focus(simp only[mem_less,List.mem_cons,List.not_mem_nil,or_false,size_drew,World.size_alloc,true_or,or_true,true_and,and_true]<;>omega));(focus(repeat(first|exact mH|apply mT)));(focus(repeat(first|exact mH|apply mT)));omega;rintro e w1 ⟨rfl,a,c,l⟩;clear b;have b:=Hi a;clear a
    (try simp only[size_drew,World.size_alloc] at c))
  |
   (go_at_call 70
    apply cM;apply Bag.den (w0:=w);(focus(repeat(first|exact b.o|apply Bag.alloc|apply Bag.drew)));(focus(repeat(first|exact mH|apply mT)));rintro e w1 ⟨b1,A,rfl,a,c⟩;clear b;have b:=Hi a;clear a
    (try simp only[size_drew,World.size_alloc] at c))
  |
   (go_at_call 173
    apply cM;apply Bag.sub (w0:=w);(focus(repeat(first|exact b.o|apply Bag.alloc|apply Bag.drew)));(focus(simp only[mem_less,List.mem_cons,List.not_mem_nil,or_false,size_drew,World.size_alloc,true_or,or_true,true_and,and_true]<;>omega));(focus(repeat(first|exact mH|apply mT)));(focus(repeat(first|exact mH|apply mT)));omega;rintro e w1 ⟨rfl,a,c,l⟩;clear b;have b:=Hi a;clear a
    (try simp only[size_drew,World.size_alloc] at c))
  |
   (go_at_call 68
    apply cM;apply Bag.setFrac (w0:=w);(focus(repeat(first|exact b.o|apply Bag.alloc|apply Bag.drew)));(focus(repeat(first|exact mH|apply mT)));(focus(repeat(first|exact mH|apply mT)));(focus(repeat(first|exact mH|apply mT)));exact f.o;omega;omega;rintro e B d;have y:=Hi d;obtain⟨rfl,g,n⟩:=d
    clear b g n)
  )
 all_goals
  go_wp2_with (first
   |
    (go_at_call 70
     apply cM;apply Bag.den (w0:=w);(focus(repeat(first|exact b.o|apply Bag.alloc|apply Bag.drew)));(focus(repeat(first|exact mH|apply mT)));rintro e w1 ⟨b1,A,rfl,a,c⟩;clear b;have b:=Hi a;clear a
     (try simp only[size_drew,World.size_alloc] at c))
   |
    (go_at_call 72
     apply cM;apply Bag.mul (w0:=w);(focus(repeat(first|exact b.o|apply Bag.alloc|apply Bag.drew)));(focus(simp only[mem_less,List.mem_cons,List.not_mem_nil,or_false,size_drew,World.size_alloc,true_or,or_true,true_and,and_true]<;>omega));(focus(repeat(first|exact mH|apply mT)));(focus(repeat(first|exact mH|apply mT)));omega;rintro e w1 ⟨rfl,a,c,l⟩;clear b;have b:=Hi a;clear a
     (try simp only[size_drew,World.size_alloc] at c))
   |
    (go_at_call 68
     apply cM;apply Bag.setFrac (w0:=w);(focus(repeat(first|exact b.o|apply Bag.alloc|apply Bag.drew)));(focus(repeat(first|exact mH|apply mT)));(focus(repeat(first|exact mH|apply mT)));(focus(repeat(first|exact mH|apply mT)));exact f.o;omega;omega;rintro e B d;have y:=Hi d;obtain⟨rfl,g,n⟩:=d
     clear b g n)
   )
  go_ret;rw[<-z.o];exact y.o
def sgn3(X:Int):Int:=if X<0 then -1 else if X=0 then 0 else 1
def cmpZ(X Y:Int):Int:=if X<Y then -1 else if X=Y then 0 else 1
theorem Qsn(b o:Nat)(X:Int)(a:Vx)(cap:Nat)(l:Vy)(w:Vz)(c:IntAt w b o X a cap l):
 Calls prog 73 #[.pointer (some ⟨b,o,none⟩)] w fun e w'=>e=.returned (.int .i64 (sgn3 X))/\w'=w:=by
 have h:=c.neg;have i:=c.abs;by_cases f:X=0
 .
  have q:((l.length:Int) == 0)=true:=by
   have:=(c.num.num.len_zero (by decide)).1 (by omega);simp[this]
  have g:=Hi (show sgn3 X=0 by unfold sgn3;rw[if_neg (by omega),if_pos f]);clear c f;go_enter func73,ntmps73;go_wp2;go_ret;exact⟨by rw[g.o];rfl,rfl⟩
 .
  have q:((l.length:Int) == 0)=false:=by
   rw[beq_eq_false_iff_ne];have:=(c.num.num.len_zero (by decide)).2;omega
  by_cases d:X<0
  .
   have g:=Hi (show sgn3 X= -1 by unfold sgn3;rw[if_pos d]);rw[show decide (X<0)=true by simpa using d] at h;clear c f d;go_enter func73,ntmps73;go_wp2;go_ret;exact⟨by rw[g.o];rfl,rfl⟩
  .
   have g:=Hi (show sgn3 X=1 by unfold sgn3;rw[if_neg d,if_neg f]);rw[show decide (X<0)=false by simpa using d] at h;clear c f d;go_enter func73,ntmps73;go_wp2;go_ret;exact⟨by rw[g.o];rfl,rfl⟩
theorem Qso(b:Nat)(q:Rat)(w:Vz)(a:RatVal w b q):
 Calls prog 35 #[.pointer (some ⟨b,0,none⟩)] w fun e w'=>e=.returned (.int .i64 (sgn3 q.num))/\w'=w:=by
 obtain⟨D,c,c1,d,g,c2,i,h,f⟩:=a;have H:=Hi h.upper;clear h f;go_enter func35,ntmps35;go_wp2_with fail;refine(Qsn b 0 q.num c c1 d _ H.o).mono ?_;rintro e w1 ⟨rfl,rfl⟩;go_wp2;go_ret;exact⟨rfl,rfl⟩
theorem Qke(b:Nat)(w:Vz):
 Calls prog 96 #[.pointer (some ⟨b,0,none⟩)] w fun e w'=>e=.returned (.pointer (some ⟨b,0,none⟩))/\w'=w:=by
 go_enter func96,ntmps96;go_wp2;go_ret;exact⟨rfl,rfl⟩
theorem Qsp(X Y:Int)(a:X<0)(b:Y<0):cmpZ X Y= -(cmp3 X.natAbs Y.natAbs):=by
 have c:X.natAbs<Y.natAbs↔Y<X:=by omega
 have d:X.natAbs=Y.natAbs↔X=Y:=by omega
 unfold cmpZ cmp3;rcases Int.lt_trichotomy X Y with h|h|h
 . rw[if_pos h,if_neg (by omega),if_neg (by omega)]
 . rw[if_neg (by omega),if_pos h,if_neg (by omega),if_pos (by omega)];rfl
 . rw[if_neg (by omega),if_neg (by omega),if_pos (by omega)];rfl
theorem Qsq(X Y:Int)(a:0<=X)(b:0<=Y):cmpZ X Y=cmp3 X.natAbs Y.natAbs:=by
 unfold cmpZ cmp3;rcases Int.lt_trichotomy X Y with h|h|h
 . rw[if_pos h,if_pos (by omega)]
 . rw[if_neg (by omega),if_pos h,if_neg (by omega),if_pos (by omega)]
 . rw[if_neg (by omega),if_neg (by omega),if_neg (by omega),if_neg (by omega)]
theorem Qsr(z:Int)(a: -1<=z)(b:z<=1):wrap64 z=z:=by unfold wrap64;omega
theorem neg3(x y:Nat):Ending.returned (.int .i64 (wrap64 (-cmp3 x y)))=Ending.returned (.int .i64 (-cmp3 x y)):=by
 have h:=Qnz x y;rw[Qsr _ (by omega) (by omega)]
theorem Qkf(bx p:Nat)(X:Int)(a:Vx)(cap:Nat)(l:Vy)(q r:Nat)(Y:Int)(b:Vx)(cap':Nat)(m:Vy)(w:Vz)(k:IntAt w bx p X a cap l)(n:IntAt w q r Y b cap' m):
 Calls prog 71 #[.pointer (some ⟨bx,p,none⟩),.pointer (some ⟨q,r,none⟩)] w fun e w'=>e=.returned (.int .i64 (cmpZ X Y))/\Below w.heap.size w w':=by
 have j:=k.neg;have u:=k.abs;have s:=n.neg;have v:=n.abs;have f:=k.lt;have h:=n.lt;obtain⟨x,y⟩:=Ia k.num n.num;clear k n;by_cases c:decide (X<0)=decide (Y<0)
 .
  by_cases g:X<0
  .
   rw[show decide (X<0)=true by simpa using g] at j;rw[show decide (Y<0)=true by simp at c ⊢;omega] at s;have i:=Hi (Qsp X Y (by omega) (by simp at c;omega));clear c g;go_enter func71,ntmps71;go_wp2_with fail;go_region;go_wp2_with fail;go_region_held3 (fun w'=>w'.cell? ⟨bx,p+1,none⟩=some (.slice a l.length cap)/\w'.cell? ⟨q,r+1,none⟩=some (.slice b m.length cap')) ((simp [*])) (first|(go_at_call 120;refine(Qbg a b cap cap' l m X.natAbs Y.natAbs _ ?_ ?_).mono ?_;exact x.o.below ((bR.drew).drew);exact y.o.below ((bR.drew).drew);rintro e w1 ⟨rfl,d⟩;have t:=Hi (((Below.refl w.heap.size w).drew.drew).trans d);have d0:=ce d f j;have d1:=ce d f u;have d2:=ce d h v;clear d));go_wp2;go_ret;exact⟨by rw[i.o];exact neg3 _ _,t.o⟩
  .
   rw[show decide (X<0)=false by simpa using g] at j;rw[show decide (Y<0)=false by simp at c ⊢;omega] at s;have i:=Hi (Qsq X Y (by omega) (by simp at c;omega));clear c g;go_enter func71,ntmps71;go_wp2_with fail;go_region;go_wp2_with fail;go_region_held3 (fun w'=>w'.cell? ⟨bx,p+1,none⟩=some (.slice a l.length cap)/\w'.cell? ⟨q,r+1,none⟩=some (.slice b m.length cap')) ((simp [*])) (first|(go_at_call 120;refine(Qbg a b cap cap' l m X.natAbs Y.natAbs _ ?_ ?_).mono ?_;exact x.o.below ((bR.drew).drew);exact y.o.below ((bR.drew).drew);rintro e w1 ⟨rfl,d⟩;have t:=Hi (((Below.refl w.heap.size w).drew.drew).trans d);have d0:=ce d f j;have d1:=ce d f u;have d2:=ce d h v;clear d));go_wp2;go_ret;exact⟨by rw[i.o];rfl,t.o⟩
 .
  by_cases g:X<0
  .
   rw[show decide (X<0)=true by simpa using g] at j;rw[show decide (Y<0)=false by simp at c ⊢;omega] at s;have i:=Hi (show cmpZ X Y= -1 by unfold cmpZ;rw[if_pos (by simp at c;omega)]);clear c g;go_enter func71,ntmps71;go_wp2_with fail;go_region;go_wp2;go_ret;exact⟨by rw[i.o];rfl,bR.drew⟩
  .
   rw[show decide (X<0)=false by simpa using g] at j;rw[show decide (Y<0)=true by simp at c ⊢;omega] at s;have i:=Hi (show cmpZ X Y=1 by unfold cmpZ;rw[if_neg (by simp at c;omega),if_neg (by simp at c;omega)]);clear c g;go_enter func71,ntmps71;go_wp2_with fail;go_region;go_wp2;go_ret;exact⟨by rw[i.o];rfl,bR.drew⟩
theorem Qss(X:Int): -X=if (!decide (X<0))=true then -(X.natAbs:Int) else (X.natAbs:Int):=by
 by_cases h:X<0
 . simp[h];omega
 . simp[h];omega
theorem Qgk(c d:Nat)(t:Vr)(C:Vw)(X:Int)(a:Vx)(cap:Nat)(l:Vy)(w:Vz)(m:SB w c t C)(n:NoInt C)(q:d+1<C.size)(f:IntAt w c d X a cap l):
 Calls prog 119 #[.pointer (some ⟨c,d,none⟩),.pointer (some ⟨c,d,none⟩)] w (LaidOk w c d t C (-X)):=by
 have r:=f.neg;have s:=f.abs;have g:=f.lt;obtain⟨p,u,v⟩:=Ib m n f.num;clear m n f;go_enter func119,ntmps119;go_wp2;go_region_with (first
  |(go_at_call 155;refine(Qdl a cap l X.natAbs _ ?_).mono ?_;exact v.o.drew;rintro e w1 ⟨⟨x,h,rfl,i⟩,b⟩;have z:=ce b g r;have c1:=ce b g s;have k:=Hi i;have j:=Hi ((Below.refl w.heap.size w).drew.trans b);clear i b)
  |(go_at_call 114;refine(Qb3 c d t C _ x h l X.natAbs (-X) _ ?_ u.o q k.o ?_).mono ?_;exact p.o.below j.o p.o.lt;exact Qss X;rintro e w2 ⟨rfl,hl⟩;have y:=Hi hl;clear hl))
 all_goals
  go_wp2;go_ret;exact LaidOk.of (Only.of_below j.o) ⟨rfl,_,_,_,y.o⟩
theorem Qst(f bx j:Nat)(p:Rat)(w:Vz)(h:(Thing.room f).holds w)(i:RatVal w bx p)(k:Fits p j)(r:j<549755813000):
 Calls prog 118 #[.pointer (some ⟨f,0,none⟩),.pointer (some ⟨bx,0,none⟩)] w (RatOk w f p):=by
 obtain⟨b,l,c⟩:=Ib (Qat p) (show mkRat p.num (p.den:Int).natAbs=p by rw[Int.natAbs_natCast,Rat.mkRat_self]) (Bag.one i h k);clear i h k;go_enter func118,ntmps118;go_wp2;go_region_held3 (fun _=>True) (trivial) (first
  |(
   go_at_call 70;apply cM;apply Bag.den (w0:=w);(focus(repeat(first|exact c.o|apply Bag.alloc|apply Bag.drew)));(focus(repeat(first|exact mH|apply mT)));rintro e w1 ⟨b1,s,rfl,a,m⟩;clear c;have c:=Hi a
   clear a)
  |(
   go_at_call 68;apply cM;apply Bag.setFrac (w0:=w);(focus(repeat(first|exact c.o|apply Bag.alloc|apply Bag.drew)));(focus(repeat(first|exact mH|apply mT)));(focus(repeat(first|exact mH|apply mT)));(focus(repeat(first|exact mH|apply mT)));exact b.o;omega;omega;rintro e t d;have n:=Hi d;obtain⟨rfl,g,q⟩:=d
   clear c g q))
 go_wp2;go_ret;rw[<-l.o];exact n.o
theorem Qgl(b bx j:Nat)(p:Rat)(w:Vz)(i:(Thing.room b).holds w)(k:RatVal w bx p)(m:Fits p j)(n:j<549755813000):
 Calls prog 69 #[.pointer (some ⟨b,0,none⟩),.pointer (some ⟨bx,0,none⟩)] w (RatOk w b (-p)):=by
 have d:=Hi (Qst b bx j p w i k m n);clear k i m n;go_enter func69,ntmps69;go_wp2_with fail;refine d.o.mono ?_;rintro e w1 ⟨rfl,c,r,c1,s,t,c2,u,q⟩;obtain⟨f,h⟩:=Ia q c;clear q c d;go_wp2_with fail;have d:=Hi (Qgk b 0 124 _ p.num r c1 s _ f.o.sb.drew (Qab _ _ _ _ _ _ _ _) (by simp) f.o.drew.upper);go_region_held3 (fun _=>True) (trivial) (first
  |(
   go_at_call 119;refine d.o.mono ?_;rintro e w2 ⟨rfl,a,cap,l,hl⟩;have g:=Hi hl
   clear hl))
 go_wp2;go_ret;refine⟨rfl,h.o.drew.trans g.o.only,a,cap,l,t,c2,u,?_,?_,?_⟩
 .
  have:=g.o.sb;rw[Rat.neg_num,Rat.neg_den]
  simpa [putInt] using this
 . rw[Rat.neg_num];exact g.o.num
 . rw[Rat.neg_den];exact f.o.den.drew.only g.o.only f.o.sb.drew (Qab _ _ _ _ _ _ _ _)
theorem Qkg(b:Nat)(q:Rat)(w:Vz)(y:RatVal w b q):
 Calls prog 95 #[.pointer (some ⟨b,0,none⟩)] w fun e w'=>e=.returned (.bool (decide (q.den=1)))/\Below w.heap.size w w':=by
 obtain⟨D,z,c1,A,B,c2,C,h,r⟩:=y;obtain⟨H,E⟩:=Ia h r;have F:=Hi (show (cmpZ (q.den:Int) 1 == 0)=decide (q.den=1) by
  unfold cmpZ;by_cases s:q.den=1
  . rw[if_neg (by omega),if_pos (by omega)];simp[s]
  . have:=q.den_pos
    rw[if_neg (by omega),if_neg (by omega)];simp[s])
 clear h r;go_enter func95,ntmps95;go_wp2_with fail;refine(Qkh b q.num D q.den z B c1 c2 A C w H.o E.o (Qat q)).mono ?_;rintro e w1 ⟨⟨G,o,a,cap,l,rfl,t,j⟩,g⟩;obtain⟨I,d⟩:=Ia t g;clear t j g;go_wp2_with fail;refine(Qbm 1 _ (by decide) (by decide)).mono ?_;rintro e w2 ⟨⟨b2,u,c,v,rfl,m,k,x⟩,j⟩;obtain⟨n,f⟩:=Ia (show IntAt w2 b2 0 1 u c v from ⟨by rw[k.cell];rfl,by rw[k.cell];rfl,x,k.lt⟩) j;clear m k x j;go_wp2_with fail;refine(Qkf G o q.den a cap l b2 0 1 u c v _ (I.o.below f.o) n.o).mono ?_;rintro e J ⟨rfl,i⟩;have p:=Hi i;clear i;go_wp2;go_ret;refine⟨by rw[<-F.o];rfl,(d.o.trans (f.o.mono d.o.size)).trans (p.o.mono (Nat.le_trans d.o.size f.o.size))⟩
theorem Qsu(b:Nat)(q:Rat)(w:Vz)(m:RatVal w b q):
 Calls prog 98 #[.pointer (some ⟨b,0,none⟩)] w fun e w'=>(∃g a cap l,e=.returned (.pointer (some ⟨g,0,none⟩))/\IntAt w' g 0 q.den a cap l)/\Below w.heap.size w w':=by
 obtain⟨D,p,c1,r,s,c2,i,h,j⟩:=m;have d:O (Bag w w [] [.rat b q.den i.length]):=Hi ⟨Below.refl _ _,fun n u=>(by cases u),fun t f=>by
  rcases List.mem_cons.1 f with rfl|f
  . exact⟨⟨_,D,p,c1,r,s,c2,i,h,j,Qat q,Nat.le_refl _⟩,List.not_mem_nil⟩
  . cases f⟩
 clear h j;go_enter func98,ntmps98;go_wp2_with (first
  |(
   go_at_call 70;apply cM;apply Bag.den (w0:=w);(focus(repeat(first|exact d.o|apply Bag.alloc|apply Bag.drew)));(focus(repeat(first|exact mH|apply mT)));rintro e w1 ⟨b1,z,rfl,c,v⟩;clear d;have d:=Hi c
   clear c)
  |(
   go_at_call 116;apply cM;apply Bag.set (w0:=w);(focus(repeat(first|exact d.o|apply Bag.alloc|apply Bag.drew)));exact List.Mem.head _;(focus(repeat(first|exact mH|apply mT)));rintro e w1 ⟨rfl,c,k,x⟩;clear d;have d:=Hi c
   clear c))
 go_ret;obtain⟨⟨a,cap,l,y,hl⟩,_⟩:=d.o.ts _ (List.Mem.head _);exact⟨⟨_,a,cap,l,rfl,y⟩,d.o.base⟩
theorem Qsv(s:Nat)(x:Nat)(w:Vz)(z:(Thing.room s).holds w)(N:x<1000000):
 Calls prog 142 #[.pointer (some ⟨s,0,none⟩),.int .i64 x] w (RatOk w s (x:Rat)):=by
 have F:=Hi z;have G:=Hi (show mkRat (x:Int) (1:Int).natAbs=(x:Rat) by
  apply Rat.ext
  . rw[Rat.num_mkRat];simp
  . rw[Rat.den_mkRat];simp)
 clear z;go_enter func142,ntmps142;go_wp2_with fail;refine(Qbm (x:Int) _ (by omega) (by omega)).mono ?_;rintro e w1 ⟨⟨b1,A,c,t,rfl,g,a,h⟩,i⟩;obtain⟨j,k⟩:=Ia (show IntAt w1 b1 0 x A c t from ⟨by rw[a.cell];simp,by rw[a.cell];rfl,h,a.lt⟩) i;clear g a h i;go_wp2_with fail;refine(Qbm 1 _ (by decide) (by decide)).mono ?_;rintro e w2 ⟨⟨b2,B,d,u,rfl,l,b,m⟩,n⟩;obtain⟨p,q⟩:=Ia (show IntAt w2 b2 0 1 B d u from ⟨by rw[b.cell];rfl,by rw[b.cell];rfl,m,b.lt⟩) n;clear l b m n;go_wp2_with fail;obtain⟨H,I,J,K,v,C⟩:=F.o;have f:=k.o.trans (q.o.mono k.o.size);have D:t.length<=64:=j.o.num.len_bits (Nat.lt_of_le_of_lt (by omega) (by decide:1000000<2 ^ 64));have E:u.length<=64:=p.o.num.len_bits (by decide)
 refine(Qck s H I J K b1 0 x A c t b2 0 1 B d u _ (v.below f v.lt) C (j.o.below q.o) p.o (by decide) (by omega) (by omega)).mono ?_;rintro e O r;have L:=Hi (RatOk.of (Only.of_below f) r);obtain⟨rfl,y,M⟩:=r;clear y M v C f;go_wp2;go_ret;rw[<-G.o];exact L.o
end Go.Proofs.YtppkmifkpjkgpaaGreatDoor
