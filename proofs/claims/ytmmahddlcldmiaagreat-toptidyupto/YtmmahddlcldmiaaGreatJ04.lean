/- What is proved here: term.formed and what it calls: whether a term that lies in memory, and each term in it, is as its Kind asks: the plain function formedB; no memory that was there is turned. No condition but that the term lies in memory. -/
import Derived.Test.YtmmahddlcldmiaaGreatJ03
import Derived.Handy
namespace Go.Proofs.YtmmahddlcldmiaaGreat
open Go.RowKit Tryz
set_option maxHeartbeats 1000000
set_option maxRecDepth 100000
theorem th(s:ap)(w:ag)(l:s.size<=9223372036854775807):am 110 #[af s] w λe w'=>e=.returned (.bool (gh s.data.toList))/\w'=w:=by
 go_enter func110,ntmps110;go_wp2_with fail
 go_loop [3] (λb=>∃k:Nat,k<=s.size/\b=ab k/\Hid (gh (s.data.toList.take k)=true)) (λb=>s.size-(intOf b).toNat)
 case atStart=>exact⟨0,aL _,rfl,by simp[Hid,gh]⟩
 case round=>
  obtain⟨k,j,rfl,f⟩:=hrel;by_cases i:k<s.size
  ·have c:=au (vt s k i);have d:Hid (zu s[k]=false->false=gh s.data.toList):=λg=>by
    have a:gh s.data.toList=(gh (s.data.toList.take (k+1)) && gh (s.data.toList.drop (k+1))):=by
     conv=>lhs;rw[<-gZ (k+1) s.data.toList]
     simp only[gh,kM]
    rw[a,c.out,g];simp
   by_cases h:97<=(s[k].toNat:Int)
   ·by_cases a:(s[k].toNat:Int)<=122
    ·go_wp2_with fail
     go_round
     case rel=>exact⟨k+1,by omega,by go_num,by simp only[Hid];rw[c.out,f.out];simp[zu,h,a]⟩
     case measure=>simp[intOf];omega
    ·go_wp2_with fail
     go_ret
     exact⟨bU (d (by simp[zu,a])),rfl⟩
   ·go_wp2_with fail
    go_ret
    exact⟨bU (d (by simp[zu];omega)),rfl⟩
  ·go_wp2_with fail
   go_ret
   exact⟨bU (by rw[<-f.out,bF (by simp;omega)]),rfl⟩
theorem iU(s:ap)(w:ag)(d:s.size<=9223372036854775807):am 71 #[af s] w λe w'=>e=.returned (.bool (dV s))/\w'=w:=by
 by_cases b:(1:Int)<=s.size
 ·by_cases c:(s.size:Int)<=8
  ·have a:Hid (dV s=gh s.data.toList):=by simp only[Hid,dV,qP];simp[b,c]
   go_enter func71,ntmps71;go_wp2_with (go_at_call 110;refine(th _ _ d).mono ?_;rintro e w' ⟨rfl,rfl⟩)
   all_goals go_ret
   all_goals exact⟨bU (by rw[a.out]),rfl⟩
  ·have a:Hid (dV s=false):=by simp only[Hid,dV,qP];simp[c]
   go_enter func71,ntmps71;go_wp2_with fail
   go_ret
   exact⟨bU (by rw[a.out]),rfl⟩
 ·have a:Hid (dV s=false):=by simp only[Hid,dV,qP];simp[b]
  go_enter func71,ntmps71;go_wp2_with fail
  go_ret
  exact⟨bU (by rw[a.out]),rfl⟩
def bI(n:Nat)(x:Tm (n+1)):Nd:=(x.1,(x.2.1.1,x.2.2.length,x.2.1.2))
def ch:(n:Nat)->Tm n->Bool
 | 0,_=>false
 | n+1,x=>cJ (bI n x) && (!(x.1.1==4) || x.2.2.all λy=>ch n y)
def Np(n:Nat):Prop:=∀(x:Tm n)(B:Nat)(w:ag),In B w n x->B<=w.heap.size->
 am 86 #[dw n x] w λe w'=>e=.returned (.bool (ch n x))/\ak w w'
theorem kp(w:ag)(k u:Int)(s:ap)(a:aw)(l c:Nat)(b:k=1\/k=3\/k=5\/k=6):am 86 #[.agg #[ab k,ab u,af s,ae a l c]] w λe w'=>e=.returned (.bool (cJ ((k,u,s),(a,l,c))))/\ak w w':=by
 rcases b with rfl|rfl|rfl|rfl
 all_goals
  go_enter func86,ntmps86;go_wp2
  all_goals go_ret
  all_goals refine⟨bU ?_,by go_grown⟩
  all_goals go_light
  all_goals first|(simp[cJ,qP, *];done)|(simp[cJ,qP, *];omega)
theorem A9(w:ag)(u:Int)(s:ap)(a:aw)(l c:Nat)(b:s.size<=9223372036854775807):am 86 #[.agg #[ab 2,ab u,af s,ae a l c]] w λe w'=>e=.returned (.bool (cJ ((2,u,s),(a,l,c))))/\ak w w':=by
 go_enter func86,ntmps86;go_wp2_with (go_at_call 71;refine(iU _ _ b).mono ?_;rintro e w' ⟨rfl,rfl⟩)
 all_goals go_ret
 all_goals refine⟨bU ?_,by go_grown⟩
 all_goals go_light
 all_goals first|(simp[cJ, *];done)|(simp[cJ, *];omega)
theorem Ba(w:ag)(k u:Int)(s:ap)(a:aw)(l c:Nat)(b:¬k=1)(d:¬k=2)(f:¬k=3)(g:¬k=4)(h:¬k=5)(i:¬k=6):am 86 #[.agg #[ab k,ab u,af s,ae a l c]] w λe w'=>e=.returned (.bool (cJ ((k,u,s),(a,l,c))))/\ak w w':=by
 have j:cJ ((k,u,s),(a,l,c))=false:=by simp[cJ,b,d,f,g,h,i]
 rw[j];have m:(k==1)=false:=by simpa using b
 have n:(k==2)=false:=by simpa using d
 have o:(k==3)=false:=by simpa using f
 have p:(k==4)=false:=by simpa using g
 have q:(k==5)=false:=by simpa using h
 have r:(k==6)=false:=by simpa using i
 clear b d f g h i j;go_enter func86,ntmps86;go_wp2_with fail
 go_ret
 exact⟨rfl,by go_grown⟩
theorem AD(n:Nat)(ih:Np n)(p:List (Tm n))(len:Nat)(z:Hid (p.length=len))(a:aw)(pc B:Nat)(w:ag)(g:Hid (p=[]\/∃b o,a=some ⟨b,o,none⟩/\b<B/\∀(i:Nat)(y:Tm n),p[i]?=some y->dH w b (o+i*4) n y/\In B w n y))(K:len<=9223372036854775807)(r:B<=w.heap.size):am 125 #[ae a len pc] w λe w'=>e=.returned (.bool (decide ((len:Int)<=8) && p.all λy=>ch n y))/\ak w w':=by
 by_cases G:(8:Int)<len
 ·have j:decide ((len:Int)<=8)=false:=by simp;omega
  rw[j];go_enter func125,ntmps125;go_wp2_with fail
  go_ret
  exact⟨rfl,aq _ _⟩
 have j:decide ((len:Int)<=8)=true:=by simp;omega
 rw[j,eJ];clear j;go_enter func125,ntmps125;go_wp2_with fail;go_loopw [10] (λi wr=>∃k:Nat,k<=len/\i=ab k/\ak w wr/\Hid (((p.drop k).all λy=>ch n y)=p.all λy=>ch n y)) (λi _=>len-(intOf i).toNat)
 case atStart=>exact⟨0,by omega,rfl,aq _ _,rfl⟩
 case round=>
  obtain⟨k,H,rfl,d,s⟩:=hrel;by_cases D:k<len
  ·obtain⟨c,l⟩:∃c,p[k]?=some c:=⟨p[k]'(by rw[z.out];exact D),aM _⟩;have t:Hid (((p.drop k).all λy=>ch n y)=(ch n c && (p.drop (k+1)).all λy=>ch n y)):=by
    obtain⟨h,C⟩:=aX.1 l;rw[eM h,C];rfl
   rcases g.out with g|⟨L,po,rfl,E,g⟩
   ·subst g;simp at l
   obtain⟨m,q⟩:=g k c l;replace m:=m.below (d.mono r) E;replace q:=q.below (d.mono r);clear g l;cases n with
   | zero=>exact m.elim
   | succ n=>
   obtain⟨M,N,O,P⟩:=m;have u:B<=wr.heap.size:=aD r d.size
   have A:Hid (∀f,ak wr f->am 86 #[.agg #[ab c.1.1,ab c.1.2.1,af c.1.2.2,ae c.2.1.1 c.2.2.length c.2.1.2]] f λe w'=>e=.returned (.bool (ch (n+1) c))/\ak f w'):=
    λf h=>ih c B f (q.below (h.mono u)) (aD u h.size)
   clear ih q;generalize c.2.2.length=Q at*;generalize ch (n+1) c=F at*;have I:(0:Int)<=(k:Int):=by omega
   have J:(k:Int)<(len:Int):=by omega
   go_wp2_with fail;refine(A _ ((aq _ _).alloc (ao _) _)).mono ?_;rintro e f ⟨rfl,v⟩;have x:ak w f:=(d.trans (((aq _ _).alloc (ao _) _).mono d.size)).trans (v.mono (by have:=d.size;simp;omega));clear v;cases F with
   | true=>
    go_wp2_with fail;go_roundw
    case rel=>exact⟨k+1,by omega,by go_num,x,by rw[<-s.out,t.out];rfl⟩
    case measure=>simp[intOf];omega
   | false=>
    go_wp2_with fail
    go_ret
    exact⟨bU (by rw[<-s.out,t.out];rfl),x⟩
  ·go_wp2_with fail
   go_ret
   refine⟨bU ?_,d⟩;rw[<-s.out,gC (by rw[z.out];omega)];rfl
theorem Dm(w:ag)(u:Int)(s:ap)(a:aw)(l c:Nat)(r:Bool)(H:Hid (∀w1:ag,ak w w1->am 125 #[ae a l c] w1 λe w'=>e=.returned (.bool (decide ((l:Int)<=8) && r))/\ak w1 w')):am 86 #[.agg #[ab 4,ab u,af s,ae a l c]] w λe w'=>e=.returned (.bool (cJ ((4,u,s),(a,l,c)) && r))/\ak w w':=by
 have d:cJ ((4,u,s),(a,l,c))=(s.toList.isEmpty && u==0 && decide ((l:Int)<=8)):=by simp[cJ]
 rw[d];generalize decide ((l:Int)<=8)=g at*;clear d;cases h1:u==0
 ·go_enter func86,ntmps86;go_wp2_with fail
  go_ret
  exact⟨bU (by simp),by go_grown⟩
 cases h2:s.toList.isEmpty
 ·go_enter func86,ntmps86;go_wp2_with fail
  go_ret
  exact⟨bU (by simp),by go_grown⟩
 go_enter func86,ntmps86;go_wp2_with fail;refine(H _ ((aq _ _).alloc (ao _) _)).mono ?_;rintro e w1 ⟨rfl,b⟩;have f:ak w w1:=((aq _ _).alloc (ao _) _).trans (b.mono (by simp));clear b;go_wp2_with fail
 all_goals go_ret
 all_goals exact⟨bU (by simp),f⟩
theorem Dl(n:Nat):Np n:=by
 induction n with
 | zero=>intro B q c l;exact l.elim
 | succ n ih=>
  intro B q c l i;obtain⟨⟨k,e,d⟩,⟨a,pc⟩,p⟩:=B;obtain⟨⟨_,_,t,D,s⟩,f⟩:=l;simp only at t D s f;unfold maxLen at s t;show am 86 #[.agg #[ab k,ab e,af d,ae a p.length pc]] c λh E=>h=.returned (.bool (cJ ((k,e,d),(a,p.length,pc)) && (!(k==4) || p.all λg=>ch n g)))/\ak c E;by_cases m:k=4
  ·subst m;refine Dm c e d a p.length pc _ (λF j=>AD n ih p p.length rfl a pc q F ?_ (by omega) (aD i j.size));rcases f with f|⟨b,o,h,r,f⟩
   ·exact ai f
   ·exact aj ⟨b,o,h,r,λv g u=>⟨(f v g u).1.below (j.mono i) r,(f v g u).2.below (j.mono i)⟩⟩
  ·have C:(!(k==4) || p.all λg=>ch n g)=true:=by simp[m]
   rw[C,Bool.and_true];by_cases w:k=1
   ·exact kp c k e d a p.length pc (ai w)
   by_cases x:k=2
   ·subst x;exact A9 c e d a p.length pc (by omega)
   by_cases y:k=3
   ·exact kp c k e d a p.length pc (aj (ai y))
   by_cases z:k=5
   ·exact kp c k e d a p.length pc (aj (aj (ai z)))
   by_cases A:k=6
   ·exact kp c k e d a p.length pc (aj (aj (aj A)))
   ·exact Ba c k e d a p.length pc w x y m z A
end Go.Proofs.YtmmahddlcldmiaaGreat
