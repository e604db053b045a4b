/- What is proved here: term.formed and what it calls: whether a term that lies in memory, and each term in it, is as its Kind asks: the plain function formedB; no memory that was there is turned. No condition but that the term lies in memory. -/
import Derived.Test.YtckamaoibonjcaaGreatH03
import Derived.Handy
namespace Go.Proofs.YtckamaoibonjcaaGreat
open Go.RowKit
set_option maxHeartbeats 1000000
set_option maxRecDepth 100000
theorem sj(s:ByteArray)(w:World)(l:s.size<=9223372036854775807):ak 96 #[ae s] w λe w'=>e=.returned (.bool (fR s.data.toList))/\w'=w:=by
 go_enter Tryz.func96,Tryz.ntmps96;go_wp2_with fail
 go_loop [3] (λb=>∃k:Nat,k<=s.size/\b=ab k/\Hid (fR (s.data.toList.take k)=true)) (λb=>s.size-(intOf b).toNat)
 case atStart=>exact⟨0,aF _,rfl,by simp[Hid,fR]⟩
 case round=>
  obtain⟨k,j,rfl,f⟩:=hrel;by_cases i:k<s.size
  ·have c:=ao (uz s k i);have d:Hid (ye s[k]=false->false=fR s.data.toList):=λg=>by
    have a:fR s.data.toList=(fR (s.data.toList.take (k+1)) && fR (s.data.toList.drop (k+1))):=by
     conv=>lhs;rw[<-ji (k+1) s.data.toList]
     simp only[fR,jV]
    rw[a,c.out,g];simp
   by_cases h:97<=(s[k].toNat:Int)
   ·by_cases a:(s[k].toNat:Int)<=122
    ·go_wp2_with fail
     go_round
     case rel=>exact⟨k+1,by omega,by go_num,by simp only[Hid];rw[c.out,f.out];simp[ye,h,a]⟩
     case measure=>simp[intOf];omega
    ·go_wp2_with fail
     go_ret
     exact⟨bK (d.out (by simp[ye,a])),rfl⟩
   ·go_wp2_with fail
    go_ret
    exact⟨bK (d.out (by simp[ye];omega)),rfl⟩
  ·go_wp2_with fail
   go_ret
   exact⟨bK (by rw[<-f.out,bw (by simp;omega)]),rfl⟩
theorem ip(s:ByteArray)(w:World)(d:s.size<=9223372036854775807):ak 64 #[ae s] w λe w'=>e=.returned (.bool (dE s))/\w'=w:=by
 by_cases b:(1:Int)<=s.size
 ·by_cases c:(s.size:Int)<=8
  ·have a:Hid (dE s=fR s.data.toList):=by simp only[Hid,dE,pY];simp[b,c]
   go_enter Tryz.func64,Tryz.ntmps64;go_wp2_with (go_at_call 96;refine(sj _ _ d).mono ?_;rintro e w' ⟨rfl,rfl⟩)
   all_goals go_ret
   all_goals exact⟨bK (by rw[a.out]),rfl⟩
  ·have a:Hid (dE s=false):=by simp only[Hid,dE,pY];simp[c]
   go_enter Tryz.func64,Tryz.ntmps64;go_wp2_with fail
   go_ret
   exact⟨bK (by rw[a.out]),rfl⟩
 ·have a:Hid (dE s=false):=by simp only[Hid,dE,pY];simp[b]
  go_enter Tryz.func64,Tryz.ntmps64;go_wp2_with fail
  go_ret
  exact⟨bK (by rw[a.out]),rfl⟩
def bu(n:Nat)(x:Tm (n+1)):Nd:=(x.1,(x.2.1.1,x.2.2.length,x.2.1.2))
def bT:(n:Nat)->Tm n->Bool
 | 0,_=>false
 | n+1,x=>cq (bu n x) && (!(x.1.1==4) || x.2.2.all λy=>bT n y)
def LZ(n:Nat):Prop:=∀(x:Tm n)(B:Nat)(w:World),In B w n x->B<=w.heap.size->
 ak 79 #[df n x] w λe w'=>e=.returned (.bool (bT n x))/\ai w w'
theorem jF(w:World)(k b:Int)(s:ByteArray)(a:Option Addr)(l c:Nat)(d:k=1\/k=3\/k=5\/k=6):ak 79 #[.agg #[ab k,ab b,ae s,.slice a l c]] w λe w'=>e=.returned (.bool (cq ((k,b,s),(a,l,c))))/\ai w w':=by
 rcases d with rfl|rfl|rfl|rfl
 all_goals
  go_enter Tryz.func79,Tryz.ntmps79;go_wp2
  all_goals go_ret
  all_goals refine⟨bK ?_,by go_grown⟩
  all_goals go_light
  all_goals first|(simp[cq,pY, *];done)|(simp[cq,pY, *];omega)
theorem Ad(w:World)(b:Int)(s:ByteArray)(a:Option Addr)(l c:Nat)(d:s.size<=9223372036854775807):ak 79 #[.agg #[ab 2,ab b,ae s,.slice a l c]] w λe w'=>e=.returned (.bool (cq ((2,b,s),(a,l,c))))/\ai w w':=by
 go_enter Tryz.func79,Tryz.ntmps79;go_wp2_with (go_at_call 64;refine(ip _ _ d).mono ?_;rintro e w' ⟨rfl,rfl⟩)
 all_goals go_ret
 all_goals refine⟨bK ?_,by go_grown⟩
 all_goals go_light
 all_goals first|(simp[cq, *];done)|(simp[cq, *];omega)
theorem Ae(w:World)(k j:Int)(s:ByteArray)(a:Option Addr)(l c:Nat)(b:¬k=1)(d:¬k=2)(f:¬k=3)(g:¬k=4)(h:¬k=5)(i:¬k=6):ak 79 #[.agg #[ab k,ab j,ae s,.slice a l c]] w λe w'=>e=.returned (.bool (cq ((k,j,s),(a,l,c))))/\ai w w':=by
 have m:cq ((k,j,s),(a,l,c))=false:=by simp[cq,b,d,f,g,h,i]
 rw[m];have n:(k==1)=false:=by simpa using b
 have o:(k==2)=false:=by simpa using d
 have p:(k==3)=false:=by simpa using f
 have q:(k==4)=false:=by simpa using g
 have r:(k==5)=false:=by simpa using h
 have t:(k==6)=false:=by simpa using i
 clear b d f g h i m;go_enter Tryz.func79,Tryz.ntmps79;go_wp2_with fail
 go_ret
 exact⟨rfl,by go_grown⟩
theorem zq(n:Nat)(ih:LZ n)(p:List (Tm n))(len:Nat)(z:Hid (p.length=len))(a:Option Addr)(pc B:Nat)(w:World)(g:Hid (p=[]\/∃b o,a=some ⟨b,o,none⟩/\b<B/\∀(i:Nat)(y:Tm n),p[i]?=some y->dr w b (o+i*4) n y/\In B w n y))(K:len<=9223372036854775807)(r:B<=w.heap.size):ak 111 #[.slice a len pc] w λe w'=>e=.returned (.bool (decide ((len:Int)<=8) && p.all λy=>bT n y))/\ai w w':=by
 by_cases G:(8:Int)<len
 ·have j:decide ((len:Int)<=8)=false:=by simp;omega
  rw[j];go_enter Tryz.func111,Tryz.ntmps111;go_wp2_with fail
  go_ret
  exact⟨rfl,am _ _⟩
 have j:decide ((len:Int)<=8)=true:=by simp;omega
 rw[j,dZ];clear j;go_enter Tryz.func111,Tryz.ntmps111;go_wp2_with fail;go_loopw [10] (λi wr=>∃k:Nat,k<=len/\i=ab k/\ai w wr/\Hid (((p.drop k).all λy=>bT n y)=p.all λy=>bT n y)) (λi _=>len-(intOf i).toNat)
 case atStart=>exact⟨0,by omega,rfl,am _ _,rfl⟩
 case round=>
  obtain⟨k,H,rfl,d,s⟩:=hrel;by_cases D:k<len
  ·obtain⟨c,l⟩:∃c,p[k]?=some c:=⟨p[k]'(by rw[z.out];exact D),aE _⟩;have t:Hid (((p.drop k).all λy=>bT n y)=(bT n c && (p.drop (k+1)).all λy=>bT n y)):=by
    obtain⟨h,C⟩:=aM.1 l;rw[ee h,C];rfl
   rcases g.out with g|⟨L,po,rfl,E,g⟩
   ·subst g;simp at l
   obtain⟨m,q⟩:=g k c l;replace m:=m.below (d.mono r) E;replace q:=q.below (d.mono r);clear g l;cases n with
   | zero=>exact m.elim
   | succ n=>
   obtain⟨M,N,O,P⟩:=m;have u:B<=wr.heap.size:=ax r d.size
   have A:Hid (∀f,ai wr f->ak 79 #[.agg #[ab c.1.1,ab c.1.2.1,ae c.1.2.2,.slice c.2.1.1 c.2.2.length c.2.1.2]] f λe w'=>e=.returned (.bool (bT (n+1) c))/\ai f w'):=
    λf h=>ih c B f (q.below (h.mono u)) (ax u h.size)
   clear ih q;generalize c.2.2.length=Q at*;generalize bT (n+1) c=F at*;have I:(0:Int)<=(k:Int):=by omega
   have J:(k:Int)<(len:Int):=by omega
   go_wp2_with fail;refine(A.out _ ((am _ _).alloc (aj _) _)).mono ?_;rintro e f ⟨rfl,v⟩;have x:ai w f:=(d.trans (((am _ _).alloc (aj _) _).mono d.size)).trans (v.mono (by have:=d.size;simp;omega));clear v;cases F with
   | true=>
    go_wp2_with fail;go_roundw
    case rel=>exact⟨k+1,by omega,by go_num,x,by rw[<-s.out,t.out];rfl⟩
    case measure=>simp[intOf];omega
   | false=>
    go_wp2_with fail
    go_ret
    exact⟨bK (by rw[<-s.out,t.out];rfl),x⟩
  ·go_wp2_with fail
   go_ret
   refine⟨bK ?_,d⟩;rw[<-s.out,gd (by rw[z.out];omega)];rfl
theorem Cm(w:World)(b:Int)(s:ByteArray)(a:Option Addr)(l c:Nat)(r:Bool)(H:Hid (∀w1:World,ai w w1->ak 111 #[.slice a l c] w1 λe w'=>e=.returned (.bool (decide ((l:Int)<=8) && r))/\ai w1 w')):ak 79 #[.agg #[ab 4,ab b,ae s,.slice a l c]] w λe w'=>e=.returned (.bool (cq ((4,b,s),(a,l,c)) && r))/\ai w w':=by
 have f:cq ((4,b,s),(a,l,c))=(s.toList.isEmpty && b==0 && decide ((l:Int)<=8)):=by simp[cq]
 rw[f];generalize decide ((l:Int)<=8)=h at*;clear f;cases h1:b==0
 ·go_enter Tryz.func79,Tryz.ntmps79;go_wp2_with fail
  go_ret
  exact⟨bK (by simp),by go_grown⟩
 cases h2:s.toList.isEmpty
 ·go_enter Tryz.func79,Tryz.ntmps79;go_wp2_with fail
  go_ret
  exact⟨bK (by simp),by go_grown⟩
 go_enter Tryz.func79,Tryz.ntmps79;go_wp2_with fail;refine(H.out _ ((am _ _).alloc (aj _) _)).mono ?_;rintro e w1 ⟨rfl,d⟩;have g:ai w w1:=((am _ _).alloc (aj _) _).trans (d.mono (by simp));clear d;go_wp2_with fail
 all_goals go_ret
 all_goals exact⟨bK (by simp),g⟩
theorem Ck(n:Nat):LZ n:=by
 induction n with
 | zero=>intro B q c l;exact l.elim
 | succ n ih=>
  intro B q c l i;obtain⟨⟨k,e,d⟩,⟨a,pc⟩,p⟩:=B;obtain⟨⟨_,_,t,D,s⟩,f⟩:=l;simp only at t D s f;unfold maxLen at s t;show ak 79 #[.agg #[ab k,ab e,ae d,.slice a p.length pc]] c λh E=>h=.returned (.bool (cq ((k,e,d),(a,p.length,pc)) && (!(k==4) || p.all λg=>bT n g)))/\ai c E;by_cases m:k=4
  ·subst m;refine Cm c e d a p.length pc _ (λF j=>zq n ih p p.length rfl a pc q F ?_ (by omega) (ax i j.size));rcases f with f|⟨b,o,h,r,f⟩
   ·exact ag f
   ·exact ah ⟨b,o,h,r,λv g u=>⟨(f v g u).1.below (j.mono i) r,(f v g u).2.below (j.mono i)⟩⟩
  ·have C:(!(k==4) || p.all λg=>bT n g)=true:=by simp[m]
   rw[C,Bool.and_true];by_cases w:k=1
   ·exact jF c k e d a p.length pc (ag w)
   by_cases x:k=2
   ·subst x;exact Ad c e d a p.length pc (by omega)
   by_cases y:k=3
   ·exact jF c k e d a p.length pc (ah (ag y))
   by_cases z:k=5
   ·exact jF c k e d a p.length pc (ah (ah (ag z)))
   by_cases A:k=6
   ·exact jF c k e d a p.length pc (ah (ah (ah A)))
   ·exact Ae c k e d a p.length pc w x y m z A
end Go.Proofs.YtckamaoibonjcaaGreat
