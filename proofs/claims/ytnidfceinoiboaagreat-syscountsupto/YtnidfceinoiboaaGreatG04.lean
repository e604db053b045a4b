/- What is proved here: term.formed and what it calls: whether a term that lies in memory, and each term in it, is as its Kind asks: the plain function formedB; no memory that was there is turned. No condition but that the term lies in memory. -/
import Derived.Test.YtnidfceinoiboaaGreatG03
import Derived.Handy
namespace Go.Proofs.YtnidfceinoiboaaGreat
open Go.RowKit
set_option maxHeartbeats 1000000
set_option maxRecDepth 100000
theorem yQ(s:ByteArray)(w:World)(l:s.size<=9223372036854775807):Calls Tryz.prog 84 #[.string s] w λe w'=>e=.returned (.bool (fk s.data.toList))/\w'=w:=by
 go_enter Tryz.func84,Tryz.ntmps84;go_wp2_with fail
 go_loop [3] (λb=>∃k:Nat,k<=s.size/\b=.int .i64 k/\Hid (fk (s.data.toList.take k)=true)) (λb=>s.size-(intOf b).toNat)
 case atStart=>exact⟨0,aD _,rfl,by simp[Hid,fk]⟩
 case round=>
  obtain⟨k,j,rfl,f⟩:=hrel;by_cases i:k<s.size
  ·have c:=ai (A8 s k i);have d:Hid (ol s[k]=false->false=fk s.data.toList):=λg=>by
    have a:fk s.data.toList=(fk (s.data.toList.take (k+1)) && fk (s.data.toList.drop (k+1))):=by
     conv=>lhs;rw[<-im (k+1) s.data.toList]
     simp only[fk,List.all_append]
    rw[a,c.out,g];simp
   by_cases h:97<=(s[k].toNat:Int)
   ·by_cases a:(s[k].toNat:Int)<=122
    ·go_wp2_with fail
     go_round
     case rel=>exact⟨k+1,by omega,by go_num,by simp only[Hid];rw[c.out,f.out];simp[ol,h,a]⟩
     case measure=>simp[intOf];omega
    ·go_wp2_with fail
     go_ret
     exact⟨bF (d.out (by simp[ol,a])),rfl⟩
   ·go_wp2_with fail
    go_ret
    exact⟨bF (d.out (by simp[ol];omega)),rfl⟩
  ·go_wp2_with fail
   go_ret
   exact⟨bF (by rw[<-f.out,bk (by simp;omega)]),rfl⟩
theorem gZ(s:ByteArray)(w:World)(d:s.size<=9223372036854775807):Calls Tryz.prog 54 #[.string s] w λe w'=>e=.returned (.bool (cg s))/\w'=w:=by
 by_cases b:(1:Int)<=s.size
 ·by_cases c:(s.size:Int)<=8
  ·have a:Hid (cg s=fk s.data.toList):=by simp only[Hid,cg,kK];simp[b,c]
   go_enter Tryz.func54,Tryz.ntmps54;go_wp2_with (go_at_call 84;refine(yQ _ _ d).mono ?_;rintro e w' ⟨rfl,rfl⟩)
   all_goals go_ret
   all_goals exact⟨bF (by rw[a.out]),rfl⟩
  ·have a:Hid (cg s=false):=by simp only[Hid,cg,kK];simp[c]
   go_enter Tryz.func54,Tryz.ntmps54;go_wp2_with fail
   go_ret
   exact⟨bF (by rw[a.out]),rfl⟩
 ·have a:Hid (cg s=false):=by simp only[Hid,cg,kK];simp[b]
  go_enter Tryz.func54,Tryz.ntmps54;go_wp2_with fail
  go_ret
  exact⟨bF (by rw[a.out]),rfl⟩
def bm(n:Nat)(x:Tm (n+1)):Nd:=(x.1,(x.2.1.1,x.2.2.length,x.2.1.2))
def bO:(n:Nat)->Tm n->Bool
 | 0,_=>false
 | n+1,x=>bT (bm n x) && (!(x.1.1==4) || x.2.2.all λy=>bO n y)
def JE(n:Nat):Prop:=∀(x:Tm n)(B:Nat)(w:World),In B w n x->B<=w.heap.size->
 Calls Tryz.prog 68 #[dg n x] w λe w'=>e=.returned (.bool (bO n x))/\Below w.heap.size w w'
theorem jv(w:World)(k u:Int)(s:ByteArray)(a:Option Addr)(l c:Nat)(b:k=1\/k=3\/k=5\/k=6):Calls Tryz.prog 68 #[.agg #[.int .i64 k,.int .i64 u,.string s,.slice a l c]] w λe w'=>e=.returned (.bool (bT ((k,u,s),(a,l,c))))/\Below w.heap.size w w':=by
 rcases b with rfl|rfl|rfl|rfl
 all_goals
  go_enter Tryz.func68,Tryz.ntmps68;go_wp2
  all_goals go_ret
  all_goals refine⟨bF ?_,by go_grown⟩
  all_goals go_light
  all_goals first|(simp[bT,kK, *];done)|(simp[bT,kK, *];omega)
theorem yF(w:World)(u:Int)(s:ByteArray)(a:Option Addr)(l c:Nat)(b:s.size<=9223372036854775807):Calls Tryz.prog 68 #[.agg #[.int .i64 2,.int .i64 u,.string s,.slice a l c]] w λe w'=>e=.returned (.bool (bT ((2,u,s),(a,l,c))))/\Below w.heap.size w w':=by
 go_enter Tryz.func68,Tryz.ntmps68;go_wp2_with (go_at_call 54;refine(gZ _ _ b).mono ?_;rintro e w' ⟨rfl,rfl⟩)
 all_goals go_ret
 all_goals refine⟨bF ?_,by go_grown⟩
 all_goals go_light
 all_goals first|(simp[bT, *];done)|(simp[bT, *];omega)
theorem yG(w:World)(k u:Int)(s:ByteArray)(a:Option Addr)(l c:Nat)(b:¬k=1)(d:¬k=2)(f:¬k=3)(g:¬k=4)(h:¬k=5)(i:¬k=6):Calls Tryz.prog 68 #[.agg #[.int .i64 k,.int .i64 u,.string s,.slice a l c]] w λe w'=>e=.returned (.bool (bT ((k,u,s),(a,l,c))))/\Below w.heap.size w w':=by
 have j:bT ((k,u,s),(a,l,c))=false:=by simp[bT,b,d,f,g,h,i]
 rw[j];have m:(k==1)=false:=by simpa using b
 have n:(k==2)=false:=by simpa using d
 have o:(k==3)=false:=by simpa using f
 have p:(k==4)=false:=by simpa using g
 have q:(k==5)=false:=by simpa using h
 have r:(k==6)=false:=by simpa using i
 clear b d f g h i j;go_enter Tryz.func68,Tryz.ntmps68;go_wp2_with fail
 go_ret
 exact⟨rfl,by go_grown⟩
theorem xQ(n:Nat)(ih:JE n)(p:List (Tm n))(len:Nat)(z:Hid (p.length=len))(a:Option Addr)(pc B:Nat)(w:World)(g:Hid (p=[]\/∃b o,a=some ⟨b,o,none⟩/\b<B/\∀(i:Nat)(y:Tm n),p[i]?=some y->dr w b (o+i*4) n y/\In B w n y))(K:len<=9223372036854775807)(r:B<=w.heap.size):Calls Tryz.prog 97 #[.slice a len pc] w λe w'=>e=.returned (.bool (decide ((len:Int)<=8) && p.all λy=>bO n y))/\Below w.heap.size w w':=by
 by_cases G:(8:Int)<len
 ·have j:decide ((len:Int)<=8)=false:=by simp;omega
  rw[j];go_enter Tryz.func97,Tryz.ntmps97;go_wp2_with fail
  go_ret
  exact⟨rfl,ah _ _⟩
 have j:decide ((len:Int)<=8)=true:=by simp;omega
 rw[j,ed];clear j;go_enter Tryz.func97,Tryz.ntmps97;go_wp2_with fail;go_loopw [10] (λi wr=>∃k:Nat,k<=len/\i=.int .i64 k/\Below w.heap.size w wr/\Hid (((p.drop k).all λy=>bO n y)=p.all λy=>bO n y)) (λi _=>len-(intOf i).toNat)
 case atStart=>exact⟨0,by omega,rfl,ah _ _,rfl⟩
 case round=>
  obtain⟨k,H,rfl,f,s⟩:=hrel;by_cases D:k<len
  ·obtain⟨c,l⟩:∃c,p[k]?=some c:=⟨p[k]'(by rw[z.out];exact D),aA _⟩;have t:Hid (((p.drop k).all λy=>bO n y)=(bO n c && (p.drop (k+1)).all λy=>bO n y)):=by
    obtain⟨h,C⟩:=aK.1 l;rw[eF h,C];rfl
   rcases g.out with g|⟨L,po,rfl,E,g⟩
   ·subst g;simp at l
   obtain⟨m,q⟩:=g k c l;replace m:=m.below (f.mono r) E;replace q:=q.below (f.mono r);clear g l;cases n with
   | zero=>exact m.elim
   | succ n=>
   obtain⟨M,N,O,P⟩:=m;have u:B<=wr.heap.size:=au r f.size
   have A:Hid (∀d,Below wr.heap.size wr d->Calls Tryz.prog 68 #[.agg #[.int .i64 c.1.1,.int .i64 c.1.2.1,.string c.1.2.2,.slice c.2.1.1 c.2.2.length c.2.1.2]] d λe w'=>e=.returned (.bool (bO (n+1) c))/\Below d.heap.size d w'):=
    λd h=>ih c B d (q.below (h.mono u)) (au u h.size)
   clear ih q;generalize c.2.2.length=Q at*;generalize bO (n+1) c=F at*;have I:(0:Int)<=(k:Int):=by omega
   have J:(k:Int)<(len:Int):=by omega
   go_wp2_with fail;refine(A.out _ ((ah _ _).alloc (ag _) _)).mono ?_;rintro e d ⟨rfl,v⟩;have x:Below w.heap.size w d:=(f.trans (((ah _ _).alloc (ag _) _).mono f.size)).trans (v.mono (by have:=f.size;simp;omega));clear v;cases F with
   | true=>
    go_wp2_with fail;go_roundw
    case rel=>exact⟨k+1,by omega,by go_num,x,by rw[<-s.out,t.out];rfl⟩
    case measure=>simp[intOf];omega
   | false=>
    go_wp2_with fail
    go_ret
    exact⟨bF (by rw[<-s.out,t.out];rfl),x⟩
  ·go_wp2_with fail
   go_ret
   refine⟨bF ?_,f⟩;rw[<-s.out,fJ (by rw[z.out];omega)];rfl
theorem AS(w:World)(u:Int)(s:ByteArray)(a:Option Addr)(l c:Nat)(r:Bool)(H:Hid (∀w1:World,Below w.heap.size w w1->Calls Tryz.prog 97 #[.slice a l c] w1 λe w'=>e=.returned (.bool (decide ((l:Int)<=8) && r))/\Below w1.heap.size w1 w')):Calls Tryz.prog 68 #[.agg #[.int .i64 4,.int .i64 u,.string s,.slice a l c]] w λe w'=>e=.returned (.bool (bT ((4,u,s),(a,l,c)) && r))/\Below w.heap.size w w':=by
 have d:bT ((4,u,s),(a,l,c))=(s.toList.isEmpty && u==0 && decide ((l:Int)<=8)):=by simp[bT]
 rw[d];generalize decide ((l:Int)<=8)=g at*;clear d;cases h1:u==0
 ·go_enter Tryz.func68,Tryz.ntmps68;go_wp2_with fail
  go_ret
  exact⟨bF (by simp),by go_grown⟩
 cases h2:s.toList.isEmpty
 ·go_enter Tryz.func68,Tryz.ntmps68;go_wp2_with fail
  go_ret
  exact⟨bF (by simp),by go_grown⟩
 go_enter Tryz.func68,Tryz.ntmps68;go_wp2_with fail;refine(H.out _ ((ah _ _).alloc (ag _) _)).mono ?_;rintro e w1 ⟨rfl,b⟩;have f:Below w.heap.size w w1:=((ah _ _).alloc (ag _) _).trans (b.mono (by simp));clear b;go_wp2_with fail
 all_goals go_ret
 all_goals exact⟨bF (by simp),f⟩
theorem AR(n:Nat):JE n:=by
 induction n with
 | zero=>intro B q a l;exact l.elim
 | succ n ih=>
  intro B q a l i;obtain⟨⟨k,e,d⟩,⟨c,pc⟩,p⟩:=B;obtain⟨⟨_,_,t,D,s⟩,f⟩:=l;simp only at t D s f;unfold maxLen at s t;show Calls Tryz.prog 68 #[.agg #[.int .i64 k,.int .i64 e,.string d,.slice c p.length pc]] a λh E=>h=.returned (.bool (bT ((k,e,d),(c,p.length,pc)) && (!(k==4) || p.all λg=>bO n g)))/\Below a.heap.size a E;by_cases m:k=4
  ·subst m;refine AS a e d c p.length pc _ (λF j=>xQ n ih p p.length rfl c pc q F ?_ (by omega) (au i j.size));rcases f with f|⟨b,o,h,r,f⟩
   ·exact ae f
   ·exact af ⟨b,o,h,r,λv g u=>⟨(f v g u).1.below (j.mono i) r,(f v g u).2.below (j.mono i)⟩⟩
  ·have C:(!(k==4) || p.all λg=>bO n g)=true:=by simp[m]
   rw[C,Bool.and_true];by_cases w:k=1
   ·exact jv a k e d c p.length pc (ae w)
   by_cases x:k=2
   ·subst x;exact yF a e d c p.length pc (by omega)
   by_cases y:k=3
   ·exact jv a k e d c p.length pc (af (ae y))
   by_cases z:k=5
   ·exact jv a k e d c p.length pc (af (af (ae z)))
   by_cases A:k=6
   ·exact jv a k e d c p.length pc (af (af (af A)))
   ·exact yG a k e d c p.length pc w x y m z A
end Go.Proofs.YtnidfceinoiboaaGreat
