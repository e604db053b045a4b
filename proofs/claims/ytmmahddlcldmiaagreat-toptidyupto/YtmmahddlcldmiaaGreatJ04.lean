/- What is proved here: term.formed and what it calls: whether a term that lies in memory, and each term in it, is as its Kind asks: the plain function formedB; no memory that was there is turned. No condition but that the term lies in memory. -/
import Derived.Test.YtmmahddlcldmiaaGreatJ03
import Derived.Handy
namespace Go.Proofs.YtmmahddlcldmiaaGreat
open Go.RowKit Go.Proofs.Tryz
set_option maxHeartbeats 1000000
set_option maxRecDepth 100000
theorem tb(s:ByteArray)(w:World)(l:s.size<=9223372036854775807):ak 110 #[af s] w λe w'=>e=.returned (.bool (fZ s.data.toList))/\w'=w:=by
 go_enter func110,ntmps110;go_wp2_with fail
 go_loop [3] (λb=>∃k:Nat,k<=s.size/\b=ab k/\Hid (fZ (s.data.toList.take k)=true)) (λb=>s.size-(intOf b).toNat)
 case atStart=>exact⟨0,aH _,rfl,by simp[Hid,fZ]⟩
 case round=>
  obtain⟨k,j,rfl,f⟩:=hrel;by_cases i:k<s.size
  ·have c:=ap (vm s k i);have d:Hid (zn s[k]=false->false=fZ s.data.toList):=λg=>by
    have a:fZ s.data.toList=(fZ (s.data.toList.take (k+1)) && fZ (s.data.toList.drop (k+1))):=by
     conv=>lhs;rw[<-gU (k+1) s.data.toList]
     simp only[fZ,kH]
    rw[a,c.out,g];simp
   by_cases h:97<=(s[k].toNat:Int)
   ·by_cases a:(s[k].toNat:Int)<=122
    ·go_wp2_with fail
     go_round
     case rel=>exact⟨k+1,by omega,by go_num,by simp only[Hid];rw[c.out,f.out];simp[zn,h,a]⟩
     case measure=>simp[intOf];omega
    ·go_wp2_with fail
     go_ret
     exact⟨bP (d (by simp[zn,a])),rfl⟩
   ·go_wp2_with fail
    go_ret
    exact⟨bP (d (by simp[zn];omega)),rfl⟩
  ·go_wp2_with fail
   go_ret
   exact⟨bP (by rw[<-f.out,bA (by simp;omega)]),rfl⟩
theorem iP(s:ByteArray)(w:World)(d:s.size<=9223372036854775807):ak 71 #[af s] w λe w'=>e=.returned (.bool (dQ s))/\w'=w:=by
 by_cases b:(1:Int)<=s.size
 ·by_cases c:(s.size:Int)<=8
  ·have a:Hid (dQ s=fZ s.data.toList):=by simp only[Hid,dQ,qK];simp[b,c]
   go_enter func71,ntmps71;go_wp2_with (go_at_call 110;refine(tb _ _ d).mono ?_;rintro e w' ⟨rfl,rfl⟩)
   all_goals go_ret
   all_goals exact⟨bP (by rw[a.out]),rfl⟩
  ·have a:Hid (dQ s=false):=by simp only[Hid,dQ,qK];simp[c]
   go_enter func71,ntmps71;go_wp2_with fail
   go_ret
   exact⟨bP (by rw[a.out]),rfl⟩
 ·have a:Hid (dQ s=false):=by simp only[Hid,dQ,qK];simp[b]
  go_enter func71,ntmps71;go_wp2_with fail
  go_ret
  exact⟨bP (by rw[a.out]),rfl⟩
def bD(n:Nat)(x:Tm (n+1)):Nd:=(x.1,(x.2.1.1,x.2.2.length,x.2.1.2))
def bZ:(n:Nat)->Tm n->Bool
 | 0,_=>false
 | n+1,x=>cE (bD n x) && (!(x.1.1==4) || x.2.2.all λy=>bZ n y)
def Ni(n:Nat):Prop:=∀(x:Tm n)(B:Nat)(w:World),In B w n x->B<=w.heap.size->
 ak 86 #[dq n x] w λe w'=>e=.returned (.bool (bZ n x))/\aj w w'
theorem kh(w:World)(k u:Int)(s:ByteArray)(a:Option Addr)(l c:Nat)(b:k=1\/k=3\/k=5\/k=6):ak 86 #[.agg #[ab k,ab u,af s,ae a l c]] w λe w'=>e=.returned (.bool (cE ((k,u,s),(a,l,c))))/\aj w w':=by
 rcases b with rfl|rfl|rfl|rfl
 all_goals
  go_enter func86,ntmps86;go_wp2
  all_goals go_ret
  all_goals refine⟨bP ?_,by go_grown⟩
  all_goals go_light
  all_goals first|(simp[cE,qK, *];done)|(simp[cE,qK, *];omega)
theorem A4(w:World)(u:Int)(s:ByteArray)(a:Option Addr)(l c:Nat)(b:s.size<=9223372036854775807):ak 86 #[.agg #[ab 2,ab u,af s,ae a l c]] w λe w'=>e=.returned (.bool (cE ((2,u,s),(a,l,c))))/\aj w w':=by
 go_enter func86,ntmps86;go_wp2_with (go_at_call 71;refine(iP _ _ b).mono ?_;rintro e w' ⟨rfl,rfl⟩)
 all_goals go_ret
 all_goals refine⟨bP ?_,by go_grown⟩
 all_goals go_light
 all_goals first|(simp[cE, *];done)|(simp[cE, *];omega)
theorem A5(w:World)(k u:Int)(s:ByteArray)(a:Option Addr)(l c:Nat)(b:¬k=1)(d:¬k=2)(f:¬k=3)(g:¬k=4)(h:¬k=5)(i:¬k=6):ak 86 #[.agg #[ab k,ab u,af s,ae a l c]] w λe w'=>e=.returned (.bool (cE ((k,u,s),(a,l,c))))/\aj w w':=by
 have j:cE ((k,u,s),(a,l,c))=false:=by simp[cE,b,d,f,g,h,i]
 rw[j];have m:(k==1)=false:=by simpa using b
 have n:(k==2)=false:=by simpa using d
 have o:(k==3)=false:=by simpa using f
 have p:(k==4)=false:=by simpa using g
 have q:(k==5)=false:=by simpa using h
 have r:(k==6)=false:=by simpa using i
 clear b d f g h i j;go_enter func86,ntmps86;go_wp2_with fail
 go_ret
 exact⟨rfl,by go_grown⟩
theorem Ay(n:Nat)(ih:Ni n)(p:List (Tm n))(len:Nat)(z:Hid (p.length=len))(a:Option Addr)(pc B:Nat)(w:World)(g:Hid (p=[]\/∃b o,a=some ⟨b,o,none⟩/\b<B/\∀(i:Nat)(y:Tm n),p[i]?=some y->dC w b (o+i*4) n y/\In B w n y))(K:len<=9223372036854775807)(r:B<=w.heap.size):ak 125 #[ae a len pc] w λe w'=>e=.returned (.bool (decide ((len:Int)<=8) && p.all λy=>bZ n y))/\aj w w':=by
 by_cases G:(8:Int)<len
 ·have j:decide ((len:Int)<=8)=false:=by simp;omega
  rw[j];go_enter func125,ntmps125;go_wp2_with fail
  go_ret
  exact⟨rfl,ao _ _⟩
 have j:decide ((len:Int)<=8)=true:=by simp;omega
 rw[j,eE];clear j;go_enter func125,ntmps125;go_wp2_with fail;go_loopw [10] (λi wr=>∃k:Nat,k<=len/\i=ab k/\aj w wr/\Hid (((p.drop k).all λy=>bZ n y)=p.all λy=>bZ n y)) (λi _=>len-(intOf i).toNat)
 case atStart=>exact⟨0,by omega,rfl,ao _ _,rfl⟩
 case round=>
  obtain⟨k,H,rfl,d,s⟩:=hrel;by_cases D:k<len
  ·obtain⟨c,l⟩:∃c,p[k]?=some c:=⟨p[k]'(by rw[z.out];exact D),aI _⟩;have t:Hid (((p.drop k).all λy=>bZ n y)=(bZ n c && (p.drop (k+1)).all λy=>bZ n y)):=by
    obtain⟨h,C⟩:=aS.1 l;rw[eH h,C];rfl
   rcases g.out with g|⟨L,po,rfl,E,g⟩
   ·subst g;simp at l
   obtain⟨m,q⟩:=g k c l;replace m:=m.below (d.mono r) E;replace q:=q.below (d.mono r);clear g l;cases n with
   | zero=>exact m.elim
   | succ n=>
   obtain⟨M,N,O,P⟩:=m;have u:B<=wr.heap.size:=az r d.size
   have A:Hid (∀f,aj wr f->ak 86 #[.agg #[ab c.1.1,ab c.1.2.1,af c.1.2.2,ae c.2.1.1 c.2.2.length c.2.1.2]] f λe w'=>e=.returned (.bool (bZ (n+1) c))/\aj f w'):=
    λf h=>ih c B f (q.below (h.mono u)) (az u h.size)
   clear ih q;generalize c.2.2.length=Q at*;generalize bZ (n+1) c=F at*;have I:(0:Int)<=(k:Int):=by omega
   have J:(k:Int)<(len:Int):=by omega
   go_wp2_with fail;refine(A _ ((ao _ _).alloc (am _) _)).mono ?_;rintro e f ⟨rfl,v⟩;have x:aj w f:=(d.trans (((ao _ _).alloc (am _) _).mono d.size)).trans (v.mono (by have:=d.size;simp;omega));clear v;cases F with
   | true=>
    go_wp2_with fail;go_roundw
    case rel=>exact⟨k+1,by omega,by go_num,x,by rw[<-s.out,t.out];rfl⟩
    case measure=>simp[intOf];omega
   | false=>
    go_wp2_with fail
    go_ret
    exact⟨bP (by rw[<-s.out,t.out];rfl),x⟩
  ·go_wp2_with fail
   go_ret
   refine⟨bP ?_,d⟩;rw[<-s.out,gu (by rw[z.out];omega)];rfl
theorem Dh(w:World)(u:Int)(s:ByteArray)(a:Option Addr)(l c:Nat)(r:Bool)(H:Hid (∀w1:World,aj w w1->ak 125 #[ae a l c] w1 λe w'=>e=.returned (.bool (decide ((l:Int)<=8) && r))/\aj w1 w')):ak 86 #[.agg #[ab 4,ab u,af s,ae a l c]] w λe w'=>e=.returned (.bool (cE ((4,u,s),(a,l,c)) && r))/\aj w w':=by
 have d:cE ((4,u,s),(a,l,c))=(s.toList.isEmpty && u==0 && decide ((l:Int)<=8)):=by simp[cE]
 rw[d];generalize decide ((l:Int)<=8)=g at*;clear d;cases h1:u==0
 ·go_enter func86,ntmps86;go_wp2_with fail
  go_ret
  exact⟨bP (by simp),by go_grown⟩
 cases h2:s.toList.isEmpty
 ·go_enter func86,ntmps86;go_wp2_with fail
  go_ret
  exact⟨bP (by simp),by go_grown⟩
 go_enter func86,ntmps86;go_wp2_with fail;refine(H _ ((ao _ _).alloc (am _) _)).mono ?_;rintro e w1 ⟨rfl,b⟩;have f:aj w w1:=((ao _ _).alloc (am _) _).trans (b.mono (by simp));clear b;go_wp2_with fail
 all_goals go_ret
 all_goals exact⟨bP (by simp),f⟩
theorem Df(n:Nat):Ni n:=by
 induction n with
 | zero=>intro B q c l;exact l.elim
 | succ n ih=>
  intro B q c l i;obtain⟨⟨k,e,d⟩,⟨a,pc⟩,p⟩:=B;obtain⟨⟨_,_,t,D,s⟩,f⟩:=l;simp only at t D s f;unfold maxLen at s t;show ak 86 #[.agg #[ab k,ab e,af d,ae a p.length pc]] c λh E=>h=.returned (.bool (cE ((k,e,d),(a,p.length,pc)) && (!(k==4) || p.all λg=>bZ n g)))/\aj c E;by_cases m:k=4
  ·subst m;refine Dh c e d a p.length pc _ (λF j=>Ay n ih p p.length rfl a pc q F ?_ (by omega) (az i j.size));rcases f with f|⟨b,o,h,r,f⟩
   ·exact ah f
   ·exact ai ⟨b,o,h,r,λv g u=>⟨(f v g u).1.below (j.mono i) r,(f v g u).2.below (j.mono i)⟩⟩
  ·have C:(!(k==4) || p.all λg=>bZ n g)=true:=by simp[m]
   rw[C,Bool.and_true];by_cases w:k=1
   ·exact kh c k e d a p.length pc (ah w)
   by_cases x:k=2
   ·subst x;exact A4 c e d a p.length pc (by omega)
   by_cases y:k=3
   ·exact kh c k e d a p.length pc (ai (ah y))
   by_cases z:k=5
   ·exact kh c k e d a p.length pc (ai (ai (ah z)))
   by_cases A:k=6
   ·exact kh c k e d a p.length pc (ai (ai (ai A)))
   ·exact A5 c k e d a p.length pc w x y m z A
end Go.Proofs.YtmmahddlcldmiaaGreat
