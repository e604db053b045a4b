/- What is proved here: term.formed and what it calls: whether a term that lies in memory, and each term in it, is as its Kind asks: the plain function formedB; no memory that was there is turned. No condition but that the term lies in memory. -/
import Derived.Test.YtmmahddlcldmiaaGreatDoorT03
import Derived.Handy
namespace Go.Proofs.YtmmahddlcldmiaaGreatDoor
open Go.RowKit Go.Proofs.Tryz
set_option maxHeartbeats 1000000
set_option maxRecDepth 100000
theorem s9(s:ByteArray)(w:World)(l:s.size<=9223372036854775807):am 84 #[af s] w λe w'=>e=.returned (.bool (fJ s.data.toList))/\w'=w:=by
 go_enter func84,ntmps84;go_wp2_with fail
 go_loop [3] (λb=>∃k:Nat,k<=s.size/\b=ab k/\Hid (fJ (s.data.toList.take k)=true)) (λb=>s.size-(intOf b).toNat)
 case atStart=>exact⟨0,aI _,rfl,by simp[Hid,fJ]⟩
 case round=>
  obtain⟨k,j,rfl,f⟩:=hrel;by_cases i:k<s.size
  ·have c:=aq (vw s k i);have d:Hid (ol s[k]=false->false=fJ s.data.toList):=λg=>by
    have a:fJ s.data.toList=(fJ (s.data.toList.take (k+1)) && fJ (s.data.toList.drop (k+1))):=by
     conv=>lhs;rw[<-ir (k+1) s.data.toList]
     simp only[fJ,jg]
    rw[a,c.out,g];simp
   by_cases h:97<=(s[k].toNat:Int)
   ·by_cases a:(s[k].toNat:Int)<=122
    ·go_wp2_with fail
     go_round
     case rel=>exact⟨k+1,by omega,by go_num,by simp only[Hid];rw[c.out,f.out];simp[ol,h,a]⟩
     case measure=>simp[intOf];omega
    ·go_wp2_with fail
     go_ret
     exact⟨bS (d (by simp[ol,a])),rfl⟩
   ·go_wp2_with fail
    go_ret
    exact⟨bS (d (by simp[ol];omega)),rfl⟩
  ·go_wp2_with fail
   go_ret
   exact⟨bS (by rw[<-f.out,bu (by simp;omega)]),rfl⟩
theorem iK(s:ByteArray)(w:World)(d:s.size<=9223372036854775807):am 47 #[af s] w λe w'=>e=.returned (.bool (dF s))/\w'=w:=by
 by_cases b:(1:Int)<=s.size
 ·by_cases c:(s.size:Int)<=8
  ·have a:Hid (dF s=fJ s.data.toList):=by simp only[Hid,dF,oe];simp[b,c]
   go_enter func47,ntmps47;go_wp2_with (go_at_call 84;refine(s9 _ _ d).mono ?_;rintro e w' ⟨rfl,rfl⟩)
   all_goals go_ret
   all_goals exact⟨bS (by rw[a.out]),rfl⟩
  ·have a:Hid (dF s=false):=by simp only[Hid,dF,oe];simp[c]
   go_enter func47,ntmps47;go_wp2_with fail
   go_ret
   exact⟨bS (by rw[a.out]),rfl⟩
 ·have a:Hid (dF s=false):=by simp only[Hid,dF,oe];simp[b]
  go_enter func47,ntmps47;go_wp2_with fail
  go_ret
  exact⟨bS (by rw[a.out]),rfl⟩
def bw(n:Nat)(x:Tm (n+1)):Nd:=(x.1,(x.2.1.1,x.2.2.length,x.2.1.2))
def bI:(n:Nat)->Tm n->Bool
 | 0,_=>false
 | n+1,x=>cg (bw n x) && (!(x.1.1==4) || x.2.2.all λy=>bI n y)
def NJ(n:Nat):Prop:=∀(x:Tm n)(B:Nat)(w:World),In B w n x->B<=w.heap.size->
 am 52 #[df n x] w λe w'=>e=.returned (.bool (bI n x))/\aj w w'
theorem j9(w:World)(k b:Int)(s:ByteArray)(a:Option Addr)(l c:Nat)(d:k=1\/k=3\/k=5\/k=6):am 52 #[.agg #[ab k,ab b,af s,ae a l c]] w λe w'=>e=.returned (.bool (cg ((k,b,s),(a,l,c))))/\aj w w':=by
 rcases d with rfl|rfl|rfl|rfl
 all_goals
  go_enter func52,ntmps52;go_wp2
  all_goals go_ret
  all_goals refine⟨bS ?_,by go_grown⟩
  all_goals go_light
  all_goals first|(simp[cg,oe, *];done)|(simp[cg,oe, *];omega)
theorem Bf(w:World)(b:Int)(s:ByteArray)(a:Option Addr)(l c:Nat)(d:s.size<=9223372036854775807):am 52 #[.agg #[ab 2,ab b,af s,ae a l c]] w λe w'=>e=.returned (.bool (cg ((2,b,s),(a,l,c))))/\aj w w':=by
 go_enter func52,ntmps52;go_wp2_with (go_at_call 47;refine(iK _ _ d).mono ?_;rintro e w' ⟨rfl,rfl⟩)
 all_goals go_ret
 all_goals refine⟨bS ?_,by go_grown⟩
 all_goals go_light
 all_goals first|(simp[cg, *];done)|(simp[cg, *];omega)
theorem Bg(w:World)(k j:Int)(s:ByteArray)(a:Option Addr)(l c:Nat)(b:¬k=1)(d:¬k=2)(f:¬k=3)(g:¬k=4)(h:¬k=5)(i:¬k=6):am 52 #[.agg #[ab k,ab j,af s,ae a l c]] w λe w'=>e=.returned (.bool (cg ((k,j,s),(a,l,c))))/\aj w w':=by
 have m:cg ((k,j,s),(a,l,c))=false:=by simp[cg,b,d,f,g,h,i]
 rw[m];have n:(k==1)=false:=by simpa using b
 have o:(k==2)=false:=by simpa using d
 have p:(k==3)=false:=by simpa using f
 have q:(k==4)=false:=by simpa using g
 have r:(k==5)=false:=by simpa using h
 have t:(k==6)=false:=by simpa using i
 clear b d f g h i m;go_enter func52,ntmps52;go_wp2_with fail
 go_ret
 exact⟨rfl,by go_grown⟩
theorem AH(n:Nat)(ih:NJ n)(p:List (Tm n))(len:Nat)(z:Hid (p.length=len))(a:Option Addr)(pc B:Nat)(w:World)(g:Hid (p=[]\/∃b o,a=some ⟨b,o,none⟩/\b<B/\∀(i:Nat)(y:Tm n),p[i]?=some y->dB w b (o+i*4) n y/\In B w n y))(K:len<=9223372036854775807)(r:B<=w.heap.size):am 88 #[ae a len pc] w λe w'=>e=.returned (.bool (decide ((len:Int)<=8) && p.all λy=>bI n y))/\aj w w':=by
 by_cases G:(8:Int)<len
 ·have j:decide ((len:Int)<=8)=false:=by simp;omega
  rw[j];go_enter func88,ntmps88;go_wp2_with fail
  go_ret
  exact⟨rfl,ap _ _⟩
 have j:decide ((len:Int)<=8)=true:=by simp;omega
 rw[j,ez];clear j;go_enter func88,ntmps88;go_wp2_with fail;go_loopw [10] (λi wr=>∃k:Nat,k<=len/\i=ab k/\aj w wr/\Hid (((p.drop k).all λy=>bI n y)=p.all λy=>bI n y)) (λi _=>len-(intOf i).toNat)
 case atStart=>exact⟨0,by omega,rfl,ap _ _,rfl⟩
 case round=>
  obtain⟨k,H,rfl,d,s⟩:=hrel;by_cases D:k<len
  ·obtain⟨c,l⟩:∃c,p[k]?=some c:=⟨p[k]'(by rw[z.out];exact D),aG _⟩;have t:Hid (((p.drop k).all λy=>bI n y)=(bI n c && (p.drop (k+1)).all λy=>bI n y)):=by
    obtain⟨h,C⟩:=aO.1 l;rw[eA h,C];rfl
   rcases g.out with g|⟨L,po,rfl,E,g⟩
   ·subst g;simp at l
   obtain⟨m,q⟩:=g k c l;replace m:=m.below (d.mono r) E;replace q:=q.below (d.mono r);clear g l;cases n with
   | zero=>exact m.elim
   | succ n=>
   obtain⟨M,N,O,P⟩:=m;have u:B<=wr.heap.size:=az r d.size
   have A:Hid (∀f,aj wr f->am 52 #[.agg #[ab c.1.1,ab c.1.2.1,af c.1.2.2,ae c.2.1.1 c.2.2.length c.2.1.2]] f λe w'=>e=.returned (.bool (bI (n+1) c))/\aj f w'):=
    λf h=>ih c B f (q.below (h.mono u)) (az u h.size)
   clear ih q;generalize c.2.2.length=Q at*;generalize bI (n+1) c=F at*;have I:(0:Int)<=(k:Int):=by omega
   have J:(k:Int)<(len:Int):=by omega
   go_wp2_with fail;refine(A _ ((ap _ _).alloc (ak _) _)).mono ?_;rintro e f ⟨rfl,v⟩;have x:aj w f:=(d.trans (((ap _ _).alloc (ak _) _).mono d.size)).trans (v.mono (by have:=d.size;simp;omega));clear v;cases F with
   | true=>
    go_wp2_with fail;go_roundw
    case rel=>exact⟨k+1,by omega,by go_num,x,by rw[<-s.out,t.out];rfl⟩
    case measure=>simp[intOf];omega
   | false=>
    go_wp2_with fail
    go_ret
    exact⟨bS (by rw[<-s.out,t.out];rfl),x⟩
  ·go_wp2_with fail
   go_ret
   refine⟨bS ?_,d⟩;rw[<-s.out,gt (by rw[z.out];omega)];rfl
theorem Dk(w:World)(b:Int)(s:ByteArray)(a:Option Addr)(l c:Nat)(r:Bool)(H:Hid (∀w1:World,aj w w1->am 88 #[ae a l c] w1 λe w'=>e=.returned (.bool (decide ((l:Int)<=8) && r))/\aj w1 w')):am 52 #[.agg #[ab 4,ab b,af s,ae a l c]] w λe w'=>e=.returned (.bool (cg ((4,b,s),(a,l,c)) && r))/\aj w w':=by
 have f:cg ((4,b,s),(a,l,c))=(s.toList.isEmpty && b==0 && decide ((l:Int)<=8)):=by simp[cg]
 rw[f];generalize decide ((l:Int)<=8)=h at*;clear f;cases h1:b==0
 ·go_enter func52,ntmps52;go_wp2_with fail
  go_ret
  exact⟨bS (by simp),by go_grown⟩
 cases h2:s.toList.isEmpty
 ·go_enter func52,ntmps52;go_wp2_with fail
  go_ret
  exact⟨bS (by simp),by go_grown⟩
 go_enter func52,ntmps52;go_wp2_with fail;refine(H _ ((ap _ _).alloc (ak _) _)).mono ?_;rintro e w1 ⟨rfl,d⟩;have g:aj w w1:=((ap _ _).alloc (ak _) _).trans (d.mono (by simp));clear d;go_wp2_with fail
 all_goals go_ret
 all_goals exact⟨bS (by simp),g⟩
theorem Dj(n:Nat):NJ n:=by
 induction n with
 | zero=>intro B q c l;exact l.elim
 | succ n ih=>
  intro B q c l i;obtain⟨⟨k,e,d⟩,⟨a,pc⟩,p⟩:=B;obtain⟨⟨_,_,t,D,s⟩,f⟩:=l;simp only at t D s f;unfold maxLen at s t;show am 52 #[.agg #[ab k,ab e,af d,ae a p.length pc]] c λh E=>h=.returned (.bool (cg ((k,e,d),(a,p.length,pc)) && (!(k==4) || p.all λg=>bI n g)))/\aj c E;by_cases m:k=4
  ·subst m;refine Dk c e d a p.length pc _ (λF j=>AH n ih p p.length rfl a pc q F ?_ (by omega) (az i j.size));rcases f with f|⟨b,o,h,r,f⟩
   ·exact ah f
   ·exact ai ⟨b,o,h,r,λv g u=>⟨(f v g u).1.below (j.mono i) r,(f v g u).2.below (j.mono i)⟩⟩
  ·have C:(!(k==4) || p.all λg=>bI n g)=true:=by simp[m]
   rw[C,Bool.and_true];by_cases w:k=1
   ·exact j9 c k e d a p.length pc (ah w)
   by_cases x:k=2
   ·subst x;exact Bf c e d a p.length pc (by omega)
   by_cases y:k=3
   ·exact j9 c k e d a p.length pc (ai (ah y))
   by_cases z:k=5
   ·exact j9 c k e d a p.length pc (ai (ai (ah z)))
   by_cases A:k=6
   ·exact j9 c k e d a p.length pc (ai (ai (ai A)))
   ·exact Bg c k e d a p.length pc w x y m z A
end Go.Proofs.YtmmahddlcldmiaaGreatDoor
