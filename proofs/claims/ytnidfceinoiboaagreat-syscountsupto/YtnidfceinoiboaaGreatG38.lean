/- What is proved here: plain facts and contracts that the claimed theorem stands on. No condition but those that each names. -/
import Derived.Test.YtnidfceinoiboaaGreatG37
namespace Go.Proofs.YtnidfceinoiboaaGreat
open Go.RowKit
set_option maxHeartbeats 2000000
set_option maxRecDepth 100000
abbrev iy(M:Nat)(o:Option (Cl (M+1)))(w:World)(e:Ending)(w':World):Prop:=pu (ex (M+1)) (gj (M+1)) (jm (M+1)) (Aq (M+1)) o w e w'
def Mq(M:Nat):Cl (M+1):=((zT M,zT M,zT M),(none,0),[])
theorem kV{M:Nat}{o:Option (Cl (M+1))}{w w':World}(b:o=none)(a:Below w.heap.size w w'):iy M o w (.returned (.tuple #[.agg #[.int .i64 0,.int .i64 0,.string .empty,.slice none 0 0,.int .i64 0,.int .i64 0,.string .empty,.slice none 0 0,.slice none 0 0,.int .i64 0,.int .i64 0,.string .empty,.slice none 0 0],.bool false])) w':=by
 subst b;exact⟨Mq M,false,rfl,a,rfl,⟨⟨ky _ _ _,ky _ _ _,ky _ _ _⟩,⟨ag _,aD _⟩,ae rfl⟩,⟨⟨ae rfl,ae rfl,ae rfl⟩,ae rfl⟩,λd c=>by cases c⟩
theorem lD{n:Nat}{m:Tm (n+1)}(c:aB ⟨n+1,m⟩)(d:m.1.1=4):m.2.2.length<=8:=by
 have b:=c (bm n m) (by simp[aq,bm]);unfold bT at b;have a:(bm n m).1.1=4:=d;rw[if_neg (by rw[a];omega),if_neg (by rw[a];omega),if_neg (by rw[a];omega),if_pos a]at b;simp only[az,bN]at b;have e:(m.2.2.length:Int)<=8:=b.1.2;omega
theorem rZ{w:World}{q:Nat}{c0 b f g h i k l m n c d e:Value}{t:TypeId}(a:w.heap[q]?=some (.cells #[c0,b,f,g,h,i,k,l,m,n,c,d,e] t)):(w.cell? ⟨q,0,none⟩=some c0/\w.cell? ⟨q,1,none⟩=some b/\w.cell? ⟨q,2,none⟩=some f/\w.cell? ⟨q,3,none⟩=some g/\w.cell? ⟨q,4,none⟩=some h/\w.cell? ⟨q,5,none⟩=some i/\w.cell? ⟨q,6,none⟩=some k/\w.cell? ⟨q,7,none⟩=some l/\w.cell? ⟨q,8,none⟩=some m/\w.cell? ⟨q,9,none⟩=some n/\w.cell? ⟨q,10,none⟩=some c/\w.cell? ⟨q,11,none⟩=some d/\w.cell? ⟨q,12,none⟩=some e)/\(∀j,w.frozen? ⟨q,j,none⟩=false)/\q<w.heap.size:=
 ⟨⟨am a 0,am a 1,am a 2,am a 3,am a 4,am a 5,am a 6,am a 7,am a 8,am a 9,am a 10,am a 11,am a 12⟩,λj=>cG a j,(aE.1 a).1⟩
theorem rQ(M _n:Nat)(k u:Int)(s:ByteArray)(xa:Option Addr)(i xc:Nat)(h:ByteArray)(a:Option Addr)(len c:Nat)(w:World)(o:Option (Cl (M+1)))(D:Hid (o=none))(F:(h.toList==[111,110])=false)(b:Hid (∀w1,Below w.heap.size w w1->Calls Tryz.prog 81 #[.agg #[.int .i64 k,.int .i64 u,.string s,.slice xa i xc]] w1 λe w'=>e=.returned (.tuple #[.string h,.slice a len c])/\Below w1.heap.size w1 w')):Calls Tryz.prog 114 #[.agg #[.int .i64 k,.int .i64 u,.string s,.slice xa i xc]] w (iy M o w):=by
 go_enter Tryz.func114,Tryz.ntmps114;go_wp2_with fail;refine(b.out _ (by go_grown)).mono ?_;rintro e w1 ⟨rfl,d⟩;obtain⟨E,g,f,I⟩:=dZ d;have j:=ai f;have l:=ai g;clear d E g f b;obtain⟨⟨m,d1,r,t,x,y,z,A,B,C,n,p,q⟩,G,H⟩:=rZ l.out;go_wp2_with fail;exact ao (v:=.tuple #[.agg #[.int .i64 0,.int .i64 0,.string .empty,.slice none 0 0,.int .i64 0,.int .i64 0,.string .empty,.slice none 0 0,.slice none 0 0,.int .i64 0,.int .i64 0,.string .empty,.slice none 0 0],.bool false]) (by simp[results,Tryz.results114,go_sem,m,d1,r,t,x,y,z,A,B,C,n,p,q];rfl) rfl (kV D.out ((pI _ _ _ _ _ _ _ _ _ _ _ _ _ _ _).below j.out (by omega)))
theorem tQ(M _n:Nat)(k u:Int)(s:ByteArray)(xa:Option Addr)(i xc:Nat)(h:ByteArray)(a:Option Addr)(len c:Nat)(w:World)(o:Option (Cl (M+1)))(D:Hid (o=none))(F:(h.toList==[111,110])=true)(_hl:((len:Int)==4)=false)(H:((len:Int) !=4)=true)(b:Hid (∀w1,Below w.heap.size w w1->Calls Tryz.prog 81 #[.agg #[.int .i64 k,.int .i64 u,.string s,.slice xa i xc]] w1 λe w'=>e=.returned (.tuple #[.string h,.slice a len c])/\Below w1.heap.size w1 w')):Calls Tryz.prog 114 #[.agg #[.int .i64 k,.int .i64 u,.string s,.slice xa i xc]] w (iy M o w):=by
 go_enter Tryz.func114,Tryz.ntmps114;go_wp2_with fail;refine(b.out _ (by go_grown)).mono ?_;rintro e w1 ⟨rfl,d⟩;obtain⟨E,g,f,J⟩:=dZ d;have j:=ai f;have l:=ai g;clear d E g f b;obtain⟨⟨m,d1,r,t,x,y,z,A,B,C,n,p,q⟩,G,I⟩:=rZ l.out;go_wp2_with fail;exact ao (v:=.tuple #[.agg #[.int .i64 0,.int .i64 0,.string .empty,.slice none 0 0,.int .i64 0,.int .i64 0,.string .empty,.slice none 0 0,.slice none 0 0,.int .i64 0,.int .i64 0,.string .empty,.slice none 0 0],.bool false]) (by simp[results,Tryz.results114,go_sem,m,d1,r,t,x,y,z,A,B,C,n,p,q];rfl) rfl (kV D.out ((pI _ _ _ _ _ _ _ _ _ _ _ _ _ _ _).below j.out (by omega)))
theorem rO(M _n:Nat)(k u:Int)(s:ByteArray)(xa:Option Addr)(m xc:Nat)(l:ByteArray)(a po c:Nat)(w:World)(o:Option (Cl (M+1)))(F:Hid (o=none))(I:(l.toList==[111,110])=true)(G:a<w.heap.size)(j:Int)(f:w.cell? ⟨a,po+8,none⟩=some (.int .i64 j))(K:(j !=4)=true)(d:Hid (∀w1,Below w.heap.size w w1->Calls Tryz.prog 81 #[.agg #[.int .i64 k,.int .i64 u,.string s,.slice xa m xc]] w1 λe w'=>e=.returned (.tuple #[.string l,.slice (some ⟨a,po,none⟩) 4 c])/\Below w1.heap.size w1 w')):Calls Tryz.prog 114 #[.agg #[.int .i64 k,.int .i64 u,.string s,.slice xa m xc]] w (iy M o w):=by
 go_enter Tryz.func114,Tryz.ntmps114;go_wp2_with fail;refine(d.out _ (by go_grown)).mono ?_;rintro e w1 ⟨rfl,g⟩;obtain⟨H,i,h,O⟩:=dZ g;have b:=ai h;have n:=ai i;clear g H i h d;replace f:=(aj b.out _ _ G).trans f;have L:a<w1.heap.size:=by omega
 obtain⟨⟨p,d1,x,y,z,A,B,C,D,E,q,r,t⟩,J,N⟩:=rZ n.out;go_wp2_with fail;exact ao (v:=.tuple #[.agg #[.int .i64 0,.int .i64 0,.string .empty,.slice none 0 0,.int .i64 0,.int .i64 0,.string .empty,.slice none 0 0,.slice none 0 0,.int .i64 0,.int .i64 0,.string .empty,.slice none 0 0],.bool false]) (by simp[results,Tryz.results114,go_sem,p,d1,x,y,z,A,B,C,D,E,q,r,t];rfl) rfl (kV F.out ((pI _ _ _ _ _ _ _ _ _ _ _ _ _ _ _).below b.out (by omega)))
theorem Jl{n g a po:Nat}{w w':World}{y x t:Tm (n+1)}(d:a<g)(c:bu g w w')(k:(w.cell? ⟨a,po,none⟩=some (.int .i64 y.1.1)/\w.cell? ⟨a,po+1,none⟩=some (.int .i64 y.1.2.1)/\w.cell? ⟨a,po+2,none⟩=some (.string y.1.2.2)/\w.cell? ⟨a,po+3,none⟩=some (.slice y.2.1.1 y.2.2.length y.2.1.2))/\(w.cell? ⟨a,po+4,none⟩=some (.int .i64 x.1.1)/\w.cell? ⟨a,po+5,none⟩=some (.int .i64 x.1.2.1)/\w.cell? ⟨a,po+6,none⟩=some (.string x.1.2.2)/\w.cell? ⟨a,po+7,none⟩=some (.slice x.2.1.1 x.2.2.length x.2.1.2))/\(w.cell? ⟨a,po+12,none⟩=some (.int .i64 t.1.1)/\w.cell? ⟨a,po+13,none⟩=some (.int .i64 t.1.2.1)/\w.cell? ⟨a,po+14,none⟩=some (.string t.1.2.2)/\w.cell? ⟨a,po+15,none⟩=some (.slice t.2.1.1 t.2.2.length t.2.1.2))):(w'.cell? ⟨a,po,none⟩=some (.int .i64 y.1.1)/\w'.cell? ⟨a,po+1,none⟩=some (.int .i64 y.1.2.1)/\w'.cell? ⟨a,po+2,none⟩=some (.string y.1.2.2)/\w'.cell? ⟨a,po+3,none⟩=some (.slice y.2.1.1 y.2.2.length y.2.1.2))/\(w'.cell? ⟨a,po+4,none⟩=some (.int .i64 x.1.1)/\w'.cell? ⟨a,po+5,none⟩=some (.int .i64 x.1.2.1)/\w'.cell? ⟨a,po+6,none⟩=some (.string x.1.2.2)/\w'.cell? ⟨a,po+7,none⟩=some (.slice x.2.1.1 x.2.2.length x.2.1.2))/\(w'.cell? ⟨a,po+12,none⟩=some (.int .i64 t.1.1)/\w'.cell? ⟨a,po+13,none⟩=some (.int .i64 t.1.2.1)/\w'.cell? ⟨a,po+14,none⟩=some (.string t.1.2.2)/\w'.cell? ⟨a,po+15,none⟩=some (.slice t.2.1.1 t.2.2.length t.2.1.2)):=by
 have b:=λo=>fC c (show a≠g by omega) o;exact⟨⟨(b _).trans k.1.1,(b _).trans k.1.2.1,(b _).trans k.1.2.2.1,(b _).trans k.1.2.2.2⟩,⟨(b _).trans k.2.1.1,(b _).trans k.2.1.2.1,(b _).trans k.2.1.2.2.1,(b _).trans k.2.1.2.2.2⟩,(b _).trans k.2.2.1,(b _).trans k.2.2.2.1,(b _).trans k.2.2.2.2.1,(b _).trans k.2.2.2.2.2⟩
theorem rP(M n:Nat)(k u:Int)(s:ByteArray)(xa:Option Addr)(aO xc:Nat)(aN:ByteArray)(a po c:Nat)(w:World)(y x m t:Tm (n+1))(af:n+1<=M+1)(am:Option (List (Ac (M+1))))(o:Option (Cl (M+1)))(aD:Hid (o=am.map λl=>((aI (M+1) (n+1) y,aI (M+1) (n+1) x,aI (M+1) (n+1) t),(none,0),l)))(bo:(aN.toList==[111,110])=true)(g:a<w.heap.size)(R:w.cell? ⟨a,po,none⟩=some (.int .i64 y.1.1))(S:w.cell? ⟨a,po+1,none⟩=some (.int .i64 y.1.2.1))(T:w.cell? ⟨a,po+2,none⟩=some (.string y.1.2.2))(U:w.cell? ⟨a,po+3,none⟩=some (.slice y.2.1.1 y.2.2.length y.2.1.2))(L:w.cell? ⟨a,po+4,none⟩=some (.int .i64 x.1.1))(N:w.cell? ⟨a,po+5,none⟩=some (.int .i64 x.1.2.1))(O:w.cell? ⟨a,po+6,none⟩=some (.string x.1.2.2))(Q:w.cell? ⟨a,po+7,none⟩=some (.slice x.2.1.1 x.2.2.length x.2.1.2))(Y:w.cell? ⟨a,po+8,none⟩=some (.int .i64 m.1.1))(ag:w.cell? ⟨a,po+9,none⟩=some (.int .i64 m.1.2.1))(ak:w.cell? ⟨a,po+10,none⟩=some (.string m.1.2.2))(al:w.cell? ⟨a,po+11,none⟩=some (.slice m.2.1.1 m.2.2.length m.2.1.2))(H:w.cell? ⟨a,po+12,none⟩=some (.int .i64 t.1.1))(I:w.cell? ⟨a,po+13,none⟩=some (.int .i64 t.1.2.1))(J:w.cell? ⟨a,po+14,none⟩=some (.string t.1.2.2))(K:w.cell? ⟨a,po+15,none⟩=some (.slice t.2.1.1 t.2.2.length t.2.1.2))(bd:m.1.1=4)(ax:Hid (∀w1,Below w.heap.size w w1->Calls Tryz.prog 81 #[.agg #[.int .i64 k,.int .i64 u,.string s,.slice xa aO xc]] w1 λe w'=>e=.returned (.tuple #[.string aN,.slice (some ⟨a,po,none⟩) 4 c])/\Below w1.heap.size w1 w'))(ap:Hid (∀w1,Below w.heap.size w w1->Calls Tryz.prog 142 #[.slice m.2.1.1 m.2.2.length m.2.1.2,.func (Fn.func 143) #[] #[]] w1 (kE 11 (fy (M+1)) (gQ (M+1)) (kY (M+1)) (Av (M+1)) am w1)))(aq:Hid (∀w1,Below w.heap.size w w1->Calls Tryz.prog 45 #[.agg #[.int .i64 y.1.1,.int .i64 y.1.2.1,.string y.1.2.2,.slice y.2.1.1 y.2.2.length y.2.1.2]] w1 λe w'=>∃z:Tm (n+1),e=.returned (.agg #[.int .i64 z.1.1,.int .i64 z.1.2.1,.string z.1.2.2,.slice z.2.1.1 z.2.2.length z.2.1.2])/\Hid (Below w1.heap.size w1 w'/\In w'.heap.size w' (n+1) z/\ch (λq=>w1.heap.size<=q) (n+1) z/\aw (n+1) z (n+1) y=true)))(ar:Hid (∀w1,Below w.heap.size w w1->Calls Tryz.prog 45 #[.agg #[.int .i64 x.1.1,.int .i64 x.1.2.1,.string x.1.2.2,.slice x.2.1.1 x.2.2.length x.2.1.2]] w1 λe w'=>∃z:Tm (n+1),e=.returned (.agg #[.int .i64 z.1.1,.int .i64 z.1.2.1,.string z.1.2.2,.slice z.2.1.1 z.2.2.length z.2.1.2])/\Hid (Below w1.heap.size w1 w'/\In w'.heap.size w' (n+1) z/\ch (λq=>w1.heap.size<=q) (n+1) z/\aw (n+1) z (n+1) x=true)))(au:Hid (∀w1,Below w.heap.size w w1->Calls Tryz.prog 45 #[.agg #[.int .i64 t.1.1,.int .i64 t.1.2.1,.string t.1.2.2,.slice t.2.1.1 t.2.2.length t.2.1.2]] w1 λe w'=>∃z:Tm (n+1),e=.returned (.agg #[.int .i64 z.1.1,.int .i64 z.1.2.1,.string z.1.2.2,.slice z.2.1.1 z.2.2.length z.2.1.2])/\Hid (Below w1.heap.size w1 w'/\In w'.heap.size w' (n+1) z/\ch (λq=>w1.heap.size<=q) (n+1) z/\aw (n+1) z (n+1) t=true))):Calls Tryz.prog 114 #[.agg #[.int .i64 k,.int .i64 u,.string s,.slice xa aO xc]] w (iy M o w):=by
 go_enter Tryz.func114,Tryz.ntmps114;go_wp2_with fail;refine(ax.out _ (by go_grown)).mono ?_;rintro e w1 ⟨rfl,az⟩;obtain⟨bh,aH,aA,bv⟩:=dZ az;have d:=ai aA;have ay:=ai aH;clear az bh aH aA ax;replace R:=(aj d.out _ _ g).trans R;replace S:=(aj d.out _ _ g).trans S;replace T:=(aj d.out _ _ g).trans T;replace U:=(aj d.out _ _ g).trans U;replace L:=(aj d.out _ _ g).trans L;replace N:=(aj d.out _ _ g).trans N;replace O:=(aj d.out _ _ g).trans O;replace Q:=(aj d.out _ _ g).trans Q;replace Y:=(aj d.out _ _ g).trans Y;replace ag:=(aj d.out _ _ g).trans ag;replace ak:=(aj d.out _ _ g).trans ak;replace al:=(aj d.out _ _ g).trans al;replace H:=(aj d.out _ _ g).trans H;replace I:=(aj d.out _ _ g).trans I;replace J:=(aj d.out _ _ g).trans J;replace K:=(aj d.out _ _ g).trans K;have bf:a<w1.heap.size:=by omega
 rw[bd]at Y;go_wp2_with fail;refine(ap.out _ d.out).mono ?_;rintro e j ⟨l,i,r,an,rfl,av⟩;have V:=ai av.out.1;have A:Hid (Below w.heap.size w j):=d.out.trans (V.out.mono d.out.size);have aS:=ai ((V.out.block (w.heap.size+1) (by omega)).trans ay.out);have bq:w1.heap.size<=j.heap.size:=V.out.size;have bg:a<j.heap.size:=by omega
 have C:Hid (∀w',Below j.heap.size j w'->(w'.cell? ⟨a,po,none⟩=some (.int .i64 y.1.1)/\w'.cell? ⟨a,po+1,none⟩=some (.int .i64 y.1.2.1)/\w'.cell? ⟨a,po+2,none⟩=some (.string y.1.2.2)/\w'.cell? ⟨a,po+3,none⟩=some (.slice y.2.1.1 y.2.2.length y.2.1.2))/\(w'.cell? ⟨a,po+4,none⟩=some (.int .i64 x.1.1)/\w'.cell? ⟨a,po+5,none⟩=some (.int .i64 x.1.2.1)/\w'.cell? ⟨a,po+6,none⟩=some (.string x.1.2.2)/\w'.cell? ⟨a,po+7,none⟩=some (.slice x.2.1.1 x.2.2.length x.2.1.2))/\(w'.cell? ⟨a,po+12,none⟩=some (.int .i64 t.1.1)/\w'.cell? ⟨a,po+13,none⟩=some (.int .i64 t.1.2.1)/\w'.cell? ⟨a,po+14,none⟩=some (.string t.1.2.2)/\w'.cell? ⟨a,po+15,none⟩=some (.slice t.2.1.1 t.2.2.length t.2.1.2))):=λw' a7=>by
  have h:=λo=>(aj a7 a o bg).trans (aj V.out a o bf);exact⟨⟨(h _).trans R,(h _).trans S,(h _).trans T,(h _).trans U⟩,⟨(h _).trans L,(h _).trans N,(h _).trans O,(h _).trans Q⟩,(h _).trans H,(h _).trans I,(h _).trans J,(h _).trans K⟩
 obtain⟨X,ae⟩:∃X,l.length=X:=⟨_,rfl⟩;rw[ae];have aR:=ai ae;clear ap ay R S T U L N O Q Y ag ak al H I J K ae;obtain⟨⟨R,S,T,U⟩,⟨L,N,O,Q⟩,H,I,J,K⟩:=C.out j (ah _ _);go_wp2_with fail
 go_region_held3 (λw'=>(w'.cell? ⟨a,po,none⟩=some (.int .i64 y.1.1)/\w'.cell? ⟨a,po+1,none⟩=some (.int .i64 y.1.2.1)/\w'.cell? ⟨a,po+2,none⟩=some (.string y.1.2.2)/\w'.cell? ⟨a,po+3,none⟩=some (.slice y.2.1.1 y.2.2.length y.2.1.2))/\(w'.cell? ⟨a,po+4,none⟩=some (.int .i64 x.1.1)/\w'.cell? ⟨a,po+5,none⟩=some (.int .i64 x.1.2.1)/\w'.cell? ⟨a,po+6,none⟩=some (.string x.1.2.2)/\w'.cell? ⟨a,po+7,none⟩=some (.slice x.2.1.1 x.2.2.length x.2.1.2))/\(w'.cell? ⟨a,po+12,none⟩=some (.int .i64 t.1.1)/\w'.cell? ⟨a,po+13,none⟩=some (.int .i64 t.1.2.1)/\w'.cell? ⟨a,po+14,none⟩=some (.string t.1.2.2)/\w'.cell? ⟨a,po+15,none⟩=some (.slice t.2.1.1 t.2.2.length t.2.1.2))) (first|with_reducible assumption|with_reducible exact C.out _ B.out|with_reducible exact C.out _ G.out|with_reducible exact C.out _ F.out|with_reducible exact aQ.out _ (pI _ _ _ _ _ _ _ _ _ _ _ _ _ _ _)|exact C.out _ (ah _ _).drew)
  ((first
   | (go_at_call 45;refine(aq.out _ A.out.drew).mono ?_;rintro e aL ⟨z,rfl,W⟩;have F:=ai (co W.out.1);clear aq)
   | (go_at_call 45;refine(ar.out _ (A.out.trans (F.out.mono A.out.size))).mono ?_;rintro e aM ⟨q,rfl,D⟩;have G:=ai (F.out.trans (D.out.1.mono F.out.size));clear ar)
   | (go_at_call 45;refine(au.out _ (A.out.trans (G.out.mono A.out.size))).mono ?_;rintro e p ⟨f,rfl,E⟩;have B:=ai (G.out.trans (E.out.1.mono G.out.size));clear au;have aT:=ai ((B.out.block (w.heap.size+1) (by omega)).trans aS.out);obtain⟨⟨aV,d1,aZ,a0,a1,a2,a3,a4,a5,a6,aW,aX,aY⟩,bp,bt⟩:=rZ aT.out;have aQ:=ai (λaU (ba:bu (w.heap.size+1) p aU)=>Jl (y:=y) (x:=x) (t:=t) (show a<w.heap.size+1 by omega) ba (C.out _ B.out)))))
 go_wp2_with fail;have aP:Hid (Below w.heap.size w p):=A.out.trans (B.out.mono A.out.size);have br:j.heap.size<=aL.heap.size:=F.out.size;have bs:j.heap.size<=aM.heap.size:=G.out.size;have aG:=E.out.1;have aF:=D.out.1.trans (E.out.1.mono D.out.1.size);have Z:=hU (M:=M) af ((W.out.2.1.below aF).mono aF.size) (W.out.2.2.1.mono λq (aE:j.heap.size<=q)=>(show w.heap.size+1<q by omega)) W.out.2.2.2;have aa:=hU (M:=M) af ((D.out.2.1.below aG).mono aG.size) (D.out.2.2.1.mono λq (aE:aL.heap.size<=q)=>(show w.heap.size+1<q by omega)) D.out.2.2.2;have ab:=hU (M:=M) af E.out.2.1 (E.out.2.2.1.mono λq (aE:aM.heap.size<=q)=>(show w.heap.size+1<q by omega)) E.out.2.2.2;refine ao (v:=.tuple #[.agg #[.int .i64 z.1.1,.int .i64 z.1.2.1,.string z.1.2.2,.slice z.2.1.1 z.2.2.length z.2.1.2,.int .i64 q.1.1,.int .i64 q.1.2.1,.string q.1.2.2,.slice q.2.1.1 q.2.2.length q.2.1.2,.slice i X r,.int .i64 f.1.1,.int .i64 f.1.2.1,.string f.1.2.2,.slice f.2.1.1 f.2.2.length f.2.1.2],.bool an]) (by simp[results,Tryz.results114,go_sem,aV,d1,aZ,a0,a1,a2,a3,a4,a5,a6,aW,aX,aY]) rfl ?_;have e:ex (M+1) ((aI (M+1) (n+1) z,aI (M+1) (n+1) q,aI (M+1) (n+1) f),(i,r),l)=[.int .i64 z.1.1,.int .i64 z.1.2.1,.string z.1.2.2,.slice z.2.1.1 z.2.2.length z.2.1.2,.int .i64 q.1.1,.int .i64 q.1.2.1,.string q.1.2.2,.slice q.2.1.1 q.2.2.length q.2.1.2,.slice i X r,.int .i64 f.1.1,.int .i64 f.1.2.1,.string f.1.2.2,.slice f.2.1.1 f.2.2.length f.2.1.2]:=by
  show gq (M+1) (aI (M+1) (n+1) z)++gq (M+1) (aI (M+1) (n+1) q)++(.slice i l.length r::gq (M+1) (aI (M+1) (n+1) f))=_;rw[fI,fI,fI,aR.out];rfl
 have aK:∀w',bu (w.heap.size+1) p w'->iy M o w (.returned (.tuple #[.agg (ex (M+1) ((aI (M+1) (n+1) z,aI (M+1) (n+1) q,aI (M+1) (n+1) f),(i,r),l)).toArray,.bool an])) w':=λw' aC=>by
  obtain⟨bw,bi,bj,bk,bl,bm⟩:=av.out;have ad:=bZ (fh (M+1)) 11 (fy (M+1)) i;have bb:oF p.heap.size p 11 (fy (M+1)) (gQ (M+1) p.heap.size p) i l:=ad.mono B.out.size (ad.below B.out bk);have be:rJ (kY (M+1) (λb=>w.heap.size+1<b)) (λb=>w.heap.size+1<b) i l:=ad.1 _ _ _ (λb (a8:w1.heap.size<=b)=>(show w.heap.size+1<b by omega)) bl;have a9:gj (M+1) p.heap.size p ((aI (M+1) (n+1) z,aI (M+1) (n+1) q,aI (M+1) (n+1) f),(i,r),l):=⟨⟨Z.1,aa.1,ab.1⟩,bj,bb⟩;have aB:jm (M+1) (λb=>w.heap.size+1<b) ((aI (M+1) (n+1) z,aI (M+1) (n+1) q,aI (M+1) (n+1) f),(i,r),l):=⟨⟨Z.2.1,aa.2.1,ab.2.1⟩,be⟩;refine⟨((aI (M+1) (n+1) z,aI (M+1) (n+1) q,aI (M+1) (n+1) f),(i,r),l),an,rfl,aC.below aP.out (by omega),?_,aC.stays (dW _) (P:=λb=>w.heap.size+1<b) (by omega) aB a9,(dW _).1 _ _ _ (λb (a8:w.heap.size+1<b)=>(show w.heap.size<=b by omega)) aB,λbx aJ=>?_⟩
  ·rw[bi,aD.out];cases am<;>rfl
  ·rw[aD.out]at aJ;obtain⟨bn,bc,rfl⟩:=cD.1 aJ;exact⟨⟨Z.2.2,aa.2.2,ab.2.2⟩,bm bn bc⟩
 rw[e]at aK;exact aK _ (pI _ _ _ _ _ _ _ _ _ _ _ _ _ _ _)
theorem tP(M n:Nat)(an:n<=M+1)(x:Tm n)(B:Nat)(w:World)(K:In B w n x)(ab:aB ⟨n,x⟩)(g:B<=w.heap.size):Calls Tryz.prog 114 #[dg n x] w (iy M (wZ M n x) w):=by
 cases n with
 | zero=>exact K.elim
 | succ n=>
 obtain⟨G,c,i,am,al,m⟩:=pR n x B w K g;show Calls Tryz.prog 114 #[.agg #[.int .i64 x.1.1,.int .i64 x.1.2.1,.string x.1.2.2,.slice x.2.1.1 x.2.2.length x.2.1.2]] w (iy M (qL M n (eJ n x) (bB n x)) w);have r:∀e∈bB n x,aB ⟨n,e⟩:=λe j=>dY ab j;generalize eJ n x=b at*;generalize bB n x=d at*;have F:rq b B5=(b.toList==[111,110]):=l6 b [111,110];have get:∀k,k<d.length->∃e,d[k]?=some e:=λk v=>⟨d[k],aA v⟩;by_cases f:(b.toList==[111,110])=true
 ·by_cases q:d.length=4
  ·obtain⟨e,j⟩:=get 0 (by omega);obtain⟨u,D⟩:=get 1 (by omega);obtain⟨a,y⟩:=get 2 (by omega);obtain⟨t,C⟩:=get 3 (by omega);have h:qL M n b d=if bE ⟨n,a⟩=4 then (cF (qK M (n-1)) (Cg n a)).map λl=>((aI (M+1) n e,aI (M+1) n u,aI (M+1) n t),(none,0),l)else none:=by
    unfold qL;rw[if_pos (by rw[F,f,q];rfl),j,D,y,C];rfl
   rw[q]at m;obtain⟨N,po,rfl⟩:=pK i (by omega);cases n with
   | zero=>exact(qj i j).elim
   | succ n=>
   obtain⟨⟨O,P,Q,R⟩,ae,ao⟩:=gD i j;obtain⟨⟨S,d1,T,U⟩,af,_⟩:=gD i D;obtain⟨⟨L,ag,ah,ai⟩,I,_⟩:=gD i y;obtain⟨⟨V,W,X,Y⟩,ad,_⟩:=gD i C;by_cases o:a.1.1=4
   ·have A:qL M (n+1) b d=(cF (qK M n) a.2.2).map λl=>((aI (M+1) (n+1) e,aI (M+1) (n+1) u,aI (M+1) (n+1) t),(none,0),l):=by
      rw[h,if_pos (show bE ⟨n+1,a⟩=4 from o)];rfl
    have J:=r a (ay y);have aa:a.2.2.length<=8:=by
     exact lD J o
    exact rP M n _ _ _ _ _ _ b N po c w e u a t (by omega) (cF (qK M n) a.2.2) _ A f (by omega) (by simpa using O) (by simpa using P) (by simpa using Q) (by simpa using R) (by simpa using S) (by simpa using d1) (by simpa using T) (by simpa using U) (by simpa using L) (by simpa using ag) (by simpa using ah) (by simpa using ai) (by simpa using V) (by simpa using W) (by simpa using X) (by simpa using Y) o m
     (λaj p=>xh M n a.2.2 a.2.2.length rfl aa a.2.1.1 a.2.1.2 B aj ((show eY B w n a.2.2 a.2.1.1 from I.2).below (p.mono g)) (au g p.size) (λE s ak Z=>by
      have H:=p.trans (Z.mono p.size);obtain⟨k,v⟩:=cB s;rcases I.2 with z|⟨_,_,_,_,z⟩
      ·rw[z]at s;cases s
      ·exact zE M n (by omega) E B ak ((z k E v).2.below (H.mono g)) (aU n a E J s) (au g H.size)))
     (lm ae (r e (ay j)) g) (lm af (r u (ay D)) g) (lm ad (r t (ay C)) g)
   ·have A:qL M (n+1) b d=none:=by rw[h,if_neg (show¬bE ⟨n+1,a⟩=4 from o)]
    exact rO M n _ _ _ _ _ _ b N po c w _ A f (by omega) a.1.1 (by simpa using L) (by simpa using o) m
  ·have h:qL M n b d=none:=by simp[qL,q]
   exact tQ M n _ _ _ _ _ _ b G d.length c w _ h f (tu q) (by simp;omega) m
 replace f:=nt f;have h:qL M n b d=none:=by simp[qL,F,f]
 exact rQ M n _ _ _ _ _ _ b G d.length c w _ h f m
abbrev ot(M:Nat)(o:Option (Bh (M+1)))(w:World)(e:Ending)(w':World):Prop:=pu (nr (M+1)) (og (M+1)) (jl (M+1)) (sJ (M+1)) o w e w'
theorem vt{n:Nat}{x:Tm (n+1)}(b:aB ⟨n+1,x⟩):(bB n x).length<=8:=by
 unfold bB;split
 ·rename_i a;have:=lD b a;split
  ·split
   ·rw[eG];omega
   ·simp
  ·simp
 ·simp
theorem Gb{n:Nat}{a:Tm (n+1)}(d:aB ⟨n+1,a⟩)(b:a.1.1=2):a.1.2.2.size<=2048:=by
 have:=d (bm n a) (by simp[aq,bm]);have c:cg a.1.2.2=true:=by
  simp only[bT,bm,b]at this;simp at this;exact this.1.1
 simp only[cg,kK,az,bN]at c;omega
theorem yS{n B:Nat}{w:World}{q:List (Tm n)}{a:Option Addr}(b:eY B w n q a){y:Tm n}(c:y∈q):In B w n y:=by
 rcases b with b|⟨_,_,_,_,b⟩
 ·subst b;cases c
 ·obtain⟨e,d⟩:=cB c;exact(b e y d).2
theorem oU{M:Nat}{o:Option (Bh (M+1))}{w w':World}(b:o=none)(a:Below w.heap.size w w'):ot M o w (.returned (.tuple #[.agg #[.string .empty,.slice none 0 0],.bool false])) w':=by
 subst b;exact⟨(.empty,(none,0),[]),false,rfl,a,rfl,⟨aD _,⟨ag _,aD _⟩,ae rfl⟩,ae rfl,λd c=>by cases c⟩
theorem xk(M _n:Nat)(k u:Int)(s:ByteArray)(xa:Option Addr)(j xc:Nat)(i:ByteArray)(a:Option Addr)(len c:Nat)(w:World)(o:Option (Bh (M+1)))(n:Hid (o=none))(r:(i.toList==[98,101,104])=false)(d:Hid (∀w1,Below w.heap.size w w1->Calls Tryz.prog 81 #[.agg #[.int .i64 k,.int .i64 u,.string s,.slice xa j xc]] w1 λe w'=>e=.returned (.tuple #[.string i,.slice a len c])/\Below w1.heap.size w1 w')):Calls Tryz.prog 83 #[.agg #[.int .i64 k,.int .i64 u,.string s,.slice xa j xc]] w (ot M o w):=by
 go_enter Tryz.func83,Tryz.ntmps83;go_wp2_with fail;refine(d.out _ (by go_grown)).mono ?_;rintro e w1 ⟨rfl,f⟩;obtain⟨p,h,g,y⟩:=dZ f;have l:=ai g;have b:=ai h;clear f p h g d;have m:w1.cell? ⟨w.heap.size+1,0,none⟩=some (.string ⟨#[]⟩):=am b.out 0;have d1:w1.cell? ⟨w.heap.size+1,1,none⟩=some (.slice none 0 0):=am b.out 1;have t:=λq=>cG b.out q;have x:w.heap.size+1<w1.heap.size:=(aE.1 b.out).1;go_wp2_with fail;exact ao (v:=.tuple #[.agg #[.string .empty,.slice none 0 0],.bool false]) (by simp[results,Tryz.results83,go_sem,m,d1];rfl) rfl (oU n.out ((bu.set (bu.set (bu.refl _ _) _ _) _ _).below l.out (by omega)))
theorem zG(M _n:Nat)(k u:Int)(s:ByteArray)(xa:Option Addr)(j xc:Nat)(i:ByteArray)(a:Option Addr)(len c:Nat)(w:World)(o:Option (Bh (M+1)))(n:Hid (o=none))(r:(i.toList==[98,101,104])=true)(x:(len:Int)<1)(d:Hid (∀w1,Below w.heap.size w w1->Calls Tryz.prog 81 #[.agg #[.int .i64 k,.int .i64 u,.string s,.slice xa j xc]] w1 λe w'=>e=.returned (.tuple #[.string i,.slice a len c])/\Below w1.heap.size w1 w')):Calls Tryz.prog 83 #[.agg #[.int .i64 k,.int .i64 u,.string s,.slice xa j xc]] w (ot M o w):=by
 go_enter Tryz.func83,Tryz.ntmps83;go_wp2_with fail;refine(d.out _ (by go_grown)).mono ?_;rintro e w1 ⟨rfl,f⟩;obtain⟨p,h,g,z⟩:=dZ f;have l:=ai g;have b:=ai h;clear f p h g d;have m:w1.cell? ⟨w.heap.size+1,0,none⟩=some (.string ⟨#[]⟩):=am b.out 0;have d1:w1.cell? ⟨w.heap.size+1,1,none⟩=some (.slice none 0 0):=am b.out 1;have t:=λq=>cG b.out q;have y:w.heap.size+1<w1.heap.size:=(aE.1 b.out).1;go_wp2_with fail;exact ao (v:=.tuple #[.agg #[.string .empty,.slice none 0 0],.bool false]) (by simp[results,Tryz.results83,go_sem,m,d1];rfl) rfl (oU n.out ((bu.set (bu.set (bu.refl _ _) _ _) _ _).below l.out (by omega)))
theorem xi(M _n:Nat)(k u:Int)(s:ByteArray)(xa:Option Addr)(n xc:Nat)(m:ByteArray)(b po len c:Nat)(w:World)(o:Option (Bh (M+1)))(q:Hid (o=none))(y:(m.toList==[98,101,104])=true)(B:¬(len:Int)<1)(C:(0:Int)<(len:Int))(r:b<w.heap.size)(l:Int)(g:w.cell? ⟨b,po,none⟩=some (.int .i64 l))(A:(l !=2)=true)(f:Hid (∀w1,Below w.heap.size w w1->Calls Tryz.prog 81 #[.agg #[.int .i64 k,.int .i64 u,.string s,.slice xa n xc]] w1 λe w'=>e=.returned (.tuple #[.string m,.slice (some ⟨b,po,none⟩) len c])/\Below w1.heap.size w1 w')):Calls Tryz.prog 83 #[.agg #[.int .i64 k,.int .i64 u,.string s,.slice xa n xc]] w (ot M o w):=by
 go_enter Tryz.func83,Tryz.ntmps83;go_wp2_with fail;refine(f.out _ (by go_grown)).mono ?_;rintro e w1 ⟨rfl,h⟩;obtain⟨t,j,i,F⟩:=dZ h;have d:=ai i;have a:=ai j;clear h t j i f;replace g:=(aj d.out _ _ r).trans g;have D:b<w1.heap.size:=by omega
 have p:w1.cell? ⟨w.heap.size+1,0,none⟩=some (.string ⟨#[]⟩):=am a.out 0;have d1:w1.cell? ⟨w.heap.size+1,1,none⟩=some (.slice none 0 0):=am a.out 1;have z:=λx=>cG a.out x;have E:w.heap.size+1<w1.heap.size:=(aE.1 a.out).1;go_wp2_with fail;exact ao (v:=.tuple #[.agg #[.string .empty,.slice none 0 0],.bool false]) (by simp[results,Tryz.results83,go_sem,p,d1];rfl) rfl (oU q.out ((bu.set (bu.set (bu.refl _ _) _ _) _ _).below d.out (by omega)))
theorem zH(M _n:Nat)(k u:Int)(s:ByteArray)(xa:Option Addr)(S xc:Nat)(R:ByteArray)(d po:Nat)(w:World)(y2:ByteArray)(ad:y2.size<=2048)(t:Option (List (Cl (M+1))))(o:Option (Bh (M+1)))(K:Hid (o=t.map λl=>(y2,(none,0),l)))(aq:(R.toList==[98,101,104])=true)(L:d<w.heap.size)(m:w.cell? ⟨d,po,none⟩=some (.int .i64 2))(n:w.cell? ⟨d,po+2,none⟩=some (.string y2))(D:Hid (∀w1,Below w.heap.size w w1->Calls Tryz.prog 81 #[.agg #[.int .i64 k,.int .i64 u,.string s,.slice xa S xc]] w1 λe w'=>e=.returned (.tuple #[.string R,.slice (some ⟨d,po,none⟩) 1 1])/\Below w1.heap.size w1 w'))(z:Hid (∀w1,Below w.heap.size w w1->Calls Tryz.prog 113 #[.slice (some ⟨d,po,none⟩) 0 0,.func (Fn.func 114) #[] #[]] w1 (kE 13 (ex (M+1)) (gj (M+1)) (jm (M+1)) (Aq (M+1)) t w1))):Calls Tryz.prog 83 #[.agg #[.int .i64 k,.int .i64 u,.string s,.slice xa S xc]] w (ot M o w):=by
 go_enter Tryz.func83,Tryz.ntmps83;go_wp2_with fail;refine(D.out _ (by go_grown)).mono ?_;rintro e w1 ⟨rfl,G⟩;obtain⟨ab,O,H,ax⟩:=dZ G;have f:=ai H;have E:=ai O;clear G ab O H D;replace m:=(aj f.out _ _ L).trans m;replace n:=(aj f.out _ _ L).trans n;have N:d<w1.heap.size:=by omega
 go_wp2_with fail;refine(z.out _ f.out).mono ?_;rintro e y ⟨l,c,i,x,rfl,C⟩;have g:=ai C.out.1;have A:Hid (Below w.heap.size w y):=f.out.trans (g.out.mono f.out.size);have F:=ai ((g.out.block (w.heap.size+1) (by omega)).trans E.out);have au:w1.heap.size<=y.heap.size:=g.out.size;have av:d<y.heap.size:=by omega
 replace m:=(aj g.out _ _ N).trans m;replace n:=(aj g.out _ _ N).trans n;obtain⟨j,r⟩:∃j,l.length=j:=⟨_,rfl⟩;rw[r];have U:=ai r;clear z E r;go_wp2_with fail;refine(dD _ _ ad).mono ?_;rintro e a ⟨rfl,p⟩;have B:=ai p;have T:Hid (Below w.heap.size w a):=A.out.trans (p.mono A.out.size);have h:=ai ((p.block (w.heap.size+1) (by omega)).trans F.out);have V:a.cell? ⟨w.heap.size+1,0,none⟩=some (.string ⟨#[]⟩):=am h.out 0;have d1:a.cell? ⟨w.heap.size+1,1,none⟩=some (.slice none 0 0):=am h.out 1;have ar:=λae=>cG h.out ae;have aw:w.heap.size+1<a.heap.size:=(aE.1 h.out).1;clear p F h;go_wp2_with fail;refine ao (v:=.tuple #[.agg #[.string y2,.slice c j i],.bool x]) (by simp[results,Tryz.results83,go_sem,V,d1]) rfl ?_;have an:∀w',bu (w.heap.size+1) a w'->ot M o w (.returned (.tuple #[.agg #[.string y2,.slice c j i],.bool x])) w':=λw' J=>by
  obtain⟨ay,af,ag,ah,ak,al⟩:=C.out;have q:=bZ (dW (M+1)) 13 (ex (M+1)) c;have Y:oF a.heap.size a 13 (ex (M+1)) (gj (M+1) a.heap.size a) c l:=q.mono B.out.size (q.below B.out ah);have aa:rJ (jm (M+1) (λb=>w.heap.size+1<b)) (λb=>w.heap.size+1<b) c l:=q.1 _ _ _ (λb (W:w1.heap.size<=b)=>(show w.heap.size+1<b by omega)) ak;have X:og (M+1) a.heap.size a (y2,(c,i),l):=⟨(show y2.size<=maxLen by unfold maxLen;omega),ag,Y⟩;have I:jl (M+1) (λb=>w.heap.size+1<b) (y2,(c,i),l):=aa;refine⟨(y2,(c,i),l),x,by rw[<-U.out];rfl,J.below T.out (by omega),?_,J.stays (dH _) (P:=λb=>w.heap.size+1<b) (by omega) I X,(dH _).1 _ _ _ (λb (W:w.heap.size+1<b)=>(show w.heap.size<=b by omega)) I,λaz Q=>?_⟩
  ·rw[af,K.out];cases t<;>rfl
  ·rw[K.out]at Q;obtain⟨ap,Z,rfl⟩:=cD.1 Q;exact⟨rfl,al ap Z⟩
 exact an _ (bu.set (bu.set (bu.refl _ _) _ _) _ _)
theorem xj(M _n:Nat)(k u:Int)(s:ByteArray)(xa:Option Addr)(V xc:Nat)(U:ByteArray)(f po L c:Nat)(w:World)(y2:ByteArray)(af:y2.size<=2048)(x:Option (List (Cl (M+1))))(o:Option (Bh (M+1)))(O:Hid (o=x.map λl=>(y2,(none,0),l)))(au:(U.toList==[98,101,104])=true)(Q:f<w.heap.size)(_hl:¬(L:Int)<1)(N:(0:Int)<(L:Int))(ay:(1:Int)<=(L:Int))(_hlc:(L:Int)<=(c:Int))(ax:¬c=1)(_hcm:(c:Int)<=9223372036854775807)(n:w.cell? ⟨f,po,none⟩=some (.int .i64 2))(p:w.cell? ⟨f,po+2,none⟩=some (.string y2))(E:Hid (∀w1,Below w.heap.size w w1->Calls Tryz.prog 81 #[.agg #[.int .i64 k,.int .i64 u,.string s,.slice xa V xc]] w1 λe w'=>e=.returned (.tuple #[.string U,.slice (some ⟨f,po,none⟩) L c])/\Below w1.heap.size w1 w'))(A:Hid (∀w1,Below w.heap.size w w1->Calls Tryz.prog 113 #[.slice (some ⟨f,po+4,none⟩) (L-1) (c-1),.func (Fn.func 114) #[] #[]] w1 (kE 13 (ex (M+1)) (gj (M+1)) (jm (M+1)) (Aq (M+1)) x w1))):Calls Tryz.prog 83 #[.agg #[.int .i64 k,.int .i64 u,.string s,.slice xa V xc]] w (ot M o w):=by
 go_enter Tryz.func83,Tryz.ntmps83;go_wp2_with fail;refine(E.out _ (by go_grown)).mono ?_;rintro e w1 ⟨rfl,H⟩;obtain⟨ae,S,I,aB⟩:=dZ H;have g:=ai I;have F:=ai S;clear H ae S I E;replace n:=(aj g.out _ _ Q).trans n;replace p:=(aj g.out _ _ Q).trans p;have R:f<w1.heap.size:=by omega
 go_wp2_with fail;refine(A.out _ g.out).mono ?_;rintro e z ⟨l,d,j,y,rfl,D⟩;have h:=ai D.out.1;have B:Hid (Below w.heap.size w z):=g.out.trans (h.out.mono g.out.size);have G:=ai ((h.out.block (w.heap.size+1) (by omega)).trans F.out);have aw:w1.heap.size<=z.heap.size:=h.out.size;have az:f<z.heap.size:=by omega
 replace n:=(aj h.out _ _ R).trans n;replace p:=(aj h.out _ _ R).trans p;obtain⟨m,t⟩:∃m,l.length=m:=⟨_,rfl⟩;rw[t];have X:=ai t;clear A F t;go_wp2_with fail;refine(dD _ _ af).mono ?_;rintro e a ⟨rfl,q⟩;have C:=ai q;have W:Hid (Below w.heap.size w a):=B.out.trans (q.mono B.out.size);have i:=ai ((q.block (w.heap.size+1) (by omega)).trans G.out);have Y:a.cell? ⟨w.heap.size+1,0,none⟩=some (.string ⟨#[]⟩):=am i.out 0;have d1:a.cell? ⟨w.heap.size+1,1,none⟩=some (.slice none 0 0):=am i.out 1;have av:=λag=>cG i.out ag;have aA:w.heap.size+1<a.heap.size:=(aE.1 i.out).1;clear q G i;go_wp2_with fail;refine ao (v:=.tuple #[.agg #[.string y2,.slice d m j],.bool y]) (by simp[results,Tryz.results83,go_sem,Y,d1]) rfl ?_;have aq:∀w',bu (w.heap.size+1) a w'->ot M o w (.returned (.tuple #[.agg #[.string y2,.slice d m j],.bool y])) w':=λw' K=>by
  obtain⟨aC,ah,ak,al,an,ap⟩:=D.out;have r:=bZ (dW (M+1)) 13 (ex (M+1)) d;have ab:oF a.heap.size a 13 (ex (M+1)) (gj (M+1) a.heap.size a) d l:=r.mono C.out.size (r.below C.out al);have ad:rJ (jm (M+1) (λb=>w.heap.size+1<b)) (λb=>w.heap.size+1<b) d l:=r.1 _ _ _ (λb (Z:w1.heap.size<=b)=>(show w.heap.size+1<b by omega)) an;have aa:og (M+1) a.heap.size a (y2,(d,j),l):=⟨(show y2.size<=maxLen by unfold maxLen;omega),ak,ab⟩;have J:jl (M+1) (λb=>w.heap.size+1<b) (y2,(d,j),l):=ad;refine⟨(y2,(d,j),l),y,by rw[<-X.out];rfl,K.below W.out (by omega),?_,K.stays (dH _) (P:=λb=>w.heap.size+1<b) (by omega) J aa,(dH _).1 _ _ _ (λb (Z:w.heap.size+1<b)=>(show w.heap.size<=b by omega)) J,λaD T=>?_⟩
  ·rw[ah,O.out];cases x<;>rfl
  ·rw[O.out]at T;obtain⟨ar,N,rfl⟩:=cD.1 T;exact⟨rfl,ap ar N⟩
 exact aq _ (bu.set (bu.set (bu.refl _ _) _ _) _ _)
theorem zF(M n:Nat)(Z:n<=M+1)(x:Tm n)(B:Nat)(w:World)(K:In B w n x)(H:aB ⟨n,x⟩)(p:B<=w.heap.size):Calls Tryz.prog 83 #[dg n x] w (ot M (wY M n x) w):=by
 cases n with
 | zero=>exact K.elim
 | succ n=>
 obtain⟨D,c,h,S,Y,k⟩:=pR n x B w K p;show Calls Tryz.prog 83 #[.agg #[.int .i64 x.1.1,.int .i64 x.1.2.1,.string x.1.2.2,.slice x.2.1.1 x.2.2.length x.2.1.2]] w (ot M (rN M n (eJ n x) (bB n x)) w);have I:∀d∈bB n x,aB ⟨n,d⟩:=λd U=>dY H U;have R:(bB n x).length<=8:=vt H;generalize eJ n x=e at*;generalize bB n x=a at*;have A:rq e nh=(e.toList==[98,101,104]):=l6 e [98,101,104];by_cases f:(e.toList==[98,101,104])=true
 ·cases a with
  | nil=>
   have g:rN M n e []=none:=by simp[rN]
   exact zG M n _ _ _ _ _ _ e D 0 c w _ g f (by omega) k
  | cons d a=>
   obtain⟨q,po,rfl⟩:=pK h (by simp);cases n with
   | zero=>exact(qj h (show (d::a)[0]?=some d from rfl)).elim
   | succ n=>
   obtain⟨⟨m,W,E,X⟩,ab,aa⟩:=gD h (show (d::a)[0]?=some d from rfl);by_cases i:d.1.1=2
   ·have g:rN M (n+1) e (d::a)=(cF (wZ M (n+1)) a).map λl=>(d.1.2.2,(none,0),l):=by
      simp[rN,A,f,bE,i,vg,iv,bm]
    have J:d.1.2.2.size<=2048:=Gb (I d (by simp)) i;have G:eY B w (n+1) a (some ⟨q,po+4,none⟩):=by
     rcases h with h|⟨b,o,v,t,h⟩
     ·cases h
     ·injection v with v;injection v with O P;subst O P
      exact af ⟨q,po+4,rfl,t,λz j y=>by
       have:=h (z+1) j (by simpa using y);rw[show po+4+z*4=po+(z+1)*4 by omega]
       exact this⟩
    have C:∀(j:Option Addr)(u:Nat),eY B w (n+1) a j->∀r,Below w.heap.size w r->Calls Tryz.prog 113 #[.slice j a.length u,.func (Fn.func 114) #[] #[]] r (kE 13 (ex (M+1)) (gj (M+1)) (jm (M+1)) (Aq (M+1)) (cF (wZ M (n+1)) a) r):=λj u y r s=>
     rR M (n+1) a a.length rfl (by simp at R;omega) j u B r (y.below (s.mono p)) (au p s.size) (λN L V Q=>by
      have t:=s.trans (Q.mono s.size)
      exact tP M (n+1) (by omega) N B V ((yS G L).below (t.mono p)) (I N (by simp[L])) (au p t.size))
    by_cases F:c=1
    ·have T:a=[]:=bK (by simp at S;omega);subst T F;exact zH M (n+1) _ _ _ _ _ _ e q po w d.1.2.2 J _ _ g f (by omega) (by rw[i]at m;simpa using m) (by simpa using E) k (C _ 0 (ae rfl))
    ·exact xj M (n+1) _ _ _ _ _ _ e q po (d::a).length c w d.1.2.2 J _ _ g f (by omega) (by simp only[aW];omega) (by simp only[aW];omega) (by simp only[aW];omega) (by omega) F (by omega) (by rw[i]at m;simpa using m) (by simpa using E) k (C _ (c-1) G)
   ·have g:rN M (n+1) e (d::a)=none:=by simp[rN,bE,i]
    exact xi M (n+1) _ _ _ _ _ _ e q po (d::a).length c w _ g f (by simp only[aW];omega) (by simp only[aW];omega) (by omega) d.1.1 (by simpa using m) (by simpa using i) k
 replace f:=nt f;have g:rN M n e a=none:=by simp[rN,A,f]
 exact xk M n _ _ _ _ _ _ e D a.length c w _ g f k
abbrev sC(M:Nat)(o:Option (List (Bh (M+1))))(w:World)(e:Ending)(w':World):Prop:=kE 2 (nr (M+1)) (og (M+1)) (jl (M+1)) (sJ (M+1)) o w e w'
theorem zC{M:Nat}{o:Option (List (Bh (M+1)))}{w w':World}(b:o=none)(a:Below w.heap.size w w'):sC M o w (.returned (.tuple #[.slice none 0 0,.bool false])) w':=by
 subst b;exact⟨[],none,0,false,rfl,a,rfl,⟨ag _,aD _⟩,ae rfl,ae rfl,λd c=>by cases c⟩
theorem uy(M _n:Nat)(k u:Int)(s:ByteArray)(xa:Option Addr)(t xc:Nat)(r:ByteArray)(a:Option Addr)(len c:Nat)(w:World)(o:Option (List (Bh (M+1))))(b:Bool)(H:(r.toList==[99,111,100,101])=b)(p:Hid (b=false->o=none))(m:Hid (∀w1,Below w.heap.size w w1->Calls Tryz.prog 81 #[.agg #[.int .i64 k,.int .i64 u,.string s,.slice xa t xc]] w1 λe w'=>e=.returned (.tuple #[.string r,.slice a len c])/\Below w1.heap.size w1 w'))(j:Hid (b=true->∀w1,Below w.heap.size w w1->Calls Tryz.prog 82 #[.slice a len c,.func (Fn.func 83) #[] #[]] w1 (sC M o w1))):Calls Tryz.prog 53 #[.agg #[.int .i64 k,.int .i64 u,.string s,.slice xa t xc]] w (sC M o w):=by
 cases b
 ·have HB:Hid (o=none):=p.out rfl;go_enter Tryz.func53,Tryz.ntmps53;go_wp2_with fail;refine(m.out _ (by go_grown)).mono ?_;rintro e w1 ⟨rfl,f⟩;have d:Hid (Below w.heap.size w w1):=aG.trans (f.mono (by simp));clear f;go_wp2_with fail;exact ao (v:=.tuple #[.slice none 0 0,.bool false]) (by simp[results,Tryz.results53,go_sem]) rfl (zC HB.out d.out)
 ·have x:=ai (j.out rfl);clear j p;go_enter Tryz.func53,Tryz.ntmps53;go_wp2_with fail;refine(m.out _ (by go_grown)).mono ?_;rintro e w1 ⟨rfl,f⟩;have d:Hid (Below w.heap.size w w1):=aG.trans (f.mono (by simp));clear f;go_wp2_with fail;refine(x.out _ d.out).mono ?_;rintro e I ⟨l,h,n,q,rfl,y⟩;obtain⟨g,i⟩:∃g,l.length=g:=⟨_,rfl⟩;rw[i];have z:=ai i;clear i;go_wp2_with fail;refine ao (v:=.tuple #[.slice h g n,.bool q]) (by simp[results,Tryz.results53,go_sem]) rfl ?_;obtain⟨B,C,D,E,F,G⟩:=y.out;exact⟨l,h,n,q,by rw[z.out],d.out.trans (B.mono d.out.size),C,D,E,(bZ (dH _) 2 (nr (M+1)) h).1 _ _ _ (λb A=>au d.out.size A) F,G⟩
theorem xo(M n:Nat)(A:n<=M+1)(x:Tm n)(B:Nat)(w:World)(j:In B w n x)(i:aB ⟨n,x⟩)(a:B<=w.heap.size):Calls Tryz.prog 53 #[dg n x] w (sC M (zy M n x) w):=by
 cases n with
 | zero=>exact j.elim
 | succ n=>
 obtain⟨f,c,h,z,y,o⟩:=pR n x B w j a;have s:∀l∈bB n x,aB ⟨n,l⟩:=λl t=>dY i t;have r:(bB n x).length<=8:=vt i;have e:rq (eJ n x) iO=((eJ n x).toList==[99,111,100,101]):=l6 _ [99,111,100,101];refine uy M n _ _ _ _ _ _ (eJ n x) f (bB n x).length c w (zy M (n+1) x) _ rfl (λd=>?_) o (λd u b=>?_)
 ·simp only[zy,e,d];rfl
 ·have p:zy M (n+1) x=cF (wY M n) (bB n x):=by simp only[zy,e,d];rfl
  rw[p]
  exact oV M n (bB n x) (bB n x).length rfl r f c B u (h.below (b.mono a)) (au a b.size) (λm k v q=>by
   have g:=b.trans (q.mono b.size)
   exact zF M n (by omega) m B v ((yS h k).below (g.mono a)) (s m k) (au a g.size))
theorem yy{s:ByteArray}(b:s.toList.isEmpty=true):s=.empty:=by
 apply sK;have a:ByteArray.empty.toList=[]:=by rw[du];rfl
 rw[a];simpa using b
theorem vy{n:Nat}{x:Tm (n+1)}(f:aB ⟨n+1,x⟩)(c:x.1.1=4):x.1=(4,0,.empty):=by
 have a:=f (bm n x) (by simp[aq,bm]);unfold bT at a;have b:(bm n x).1.1=4:=c;rw[if_neg (by rw[b];omega),if_neg (by rw[b];omega),if_neg (by rw[b];omega),if_pos b]at a;simp only[az,ci]at a;have d:x.1.2.2=.empty:=yy a.1.1.1;have e:x.1.2.1=0:=a.1.1.2;exact gM c (gM e d)
theorem oW{n:Nat}{x:Tm (n+1)}(g:aB ⟨n+1,x⟩)(d:x.1.1=2):x.1=(2,0,x.1.2.2)/\x.2.2=[]/\cg x.1.2.2=true:=by
 have b:=g (bm n x) (by simp[aq,bm]);unfold bT at b;have c:(bm n x).1.1=2:=d;rw[if_neg (by rw[c];omega),if_pos c]at b;simp only[az,gI,ci]at b;obtain⟨⟨f,e⟩,a⟩:=b;refine⟨gM d (gM e rfl),?_,f⟩;rcases a with a|a
 ·rw[c]at a;omega
 ·have h:¬(0:Int)<(x.2.2.length:Int):=by simpa [bm]using a
  exact bK (by omega)
theorem vz{n:Nat}{x:Tm (n+1)}(g:aB ⟨n+1,x⟩)(d:x.1.1=5):x.1=(5,x.1.2.1,.empty)/\x.2.2=[]/\0<=x.1.2.1/\x.1.2.1<=3:=by
 have c:=g (bm n x) (by simp[aq,bm]);unfold bT at c;have a:(bm n x).1.1=5:=d;rw[if_neg (by rw[a];omega),if_neg (by rw[a];omega),if_neg (by rw[a];omega),if_neg (by rw[a];omega),if_pos a]at c;simp only[az,gI,ci,kK,bN]at c;obtain⟨⟨f,e⟩,b⟩:=c;refine⟨gM d (gM rfl (yy f)),?_,e⟩;rcases b with b|b
 ·rw[a]at b;omega
 ·have h:¬(0:Int)<(x.2.2.length:Int):=by simpa [bm]using b
  exact bK (by omega)
theorem qu{n:Nat}{x:Tm (n+1)}(d:aB ⟨n+1,x⟩)(b:x.1.1=2)(N:Nat):aw (N+1) (aQ x.1.2.2 N) (n+1) x=true:=by
 obtain⟨a,c,_⟩:=oW d b;refine bX a.symm ?_;rw[c];rfl
theorem Hf{n:Nat}{x:Tm (n+1)}(d:aB ⟨n+1,x⟩)(c:x.1.1=5)(N:Nat):aw (N+1) (aS 5 x.1.2.1 N) (n+1) x=true:=by
 obtain⟨a,b,_⟩:=vz d c;refine bX a.symm ?_;rw[b];rfl
theorem fU{n:Nat}{x:Tm (n+1)}(j:aB ⟨n+1,x⟩){f:ByteArray}(o:rq (eJ n x) f=true)(b:f.toList≠[]):x.1=(4,0,.empty)/\∃i,x.2.2=i::bB n x/\∀N,aw (N+1) (aQ f N) n i=true:=by
 have g:ByteArray.empty.toList=[]:=by rw[du];rfl
 have a:eJ n x=f:=sK o;unfold eJ at a;by_cases e:x.1.1=4
 ·rw[if_pos e]at a;refine⟨vy j e,?_⟩;obtain⟨⟨k,r,q⟩,⟨p,c⟩,l⟩:=x;simp only at e a;subst e;cases l with
  | nil=>
   simp at a;rw[<-a,g]at b;exact(b rfl).elim
  | cons d l=>
   simp only[cH]at a;cases n with
   | zero=>
    simp[bE]at a;rw[<-a,g]at b;exact(b rfl).elim
   | succ n=>
    by_cases h:d.1.1=2
    ·refine⟨d,by simp[bB,bE,h],λN=>?_⟩;have m:f=d.1.2.2:=by
      rw[if_pos (show bE ⟨n+1,d⟩=2 from h)]at a;exact a.symm
     rw[m];exact qu (aU (n+1) _ d j (by simp)) h N
    ·rw[if_neg (show¬bE ⟨n+1,d⟩=2 from h)]at a;rw[<-a,g]at b;exact(b rfl).elim
 ·rw[if_neg e]at a;rw[<-a,g]at b;exact(b rfl).elim
theorem mn(l:List UInt8)(a:l≠[]):(⟨l.toArray⟩:ByteArray).toList≠[]:=by rw[jA];exact a
theorem lA{M n:Nat}(a:n<=M+1){y:Tm n}(b:aB ⟨n,y⟩):aw (M+1) (aI (M+1) n y) n y=true:=lu (M+1) n a y (gf n y b)
theorem F7{b:Type}{l:List b}{a:b}(c:l.length=1)(d:l[0]?=some a):l=[a]:=by
 match l,c with
 | [x],_=>simpa using d
theorem F8{e:Type}{l:List e}{a b:e}(f:l.length=2)(c:l[0]?=some a)(d:l[1]?=some b):l=[a,b]:=by
 match l,f with
 | [x,y],_=>
  simp at c d;rw[c,d]
theorem A7{g:Type}{l:List g}{a b c:g}(h:l.length=3)(d:l[0]?=some a)(e:l[1]?=some b)(f:l[2]?=some c):l=[a,b,c]:=by
 match l,h with
 | [x,y,z],_=>
  simp at d e f;rw[d,e,f]
theorem DJ{i:Type}{l:List i}{a b c d:i}(j:l.length=4)(e:l[0]?=some a)(f:l[1]?=some b)(g:l[2]?=some c)(h:l[3]?=some d):l=[a,b,c,d]:=by
 match l,j with
 | [x,y,z,t],_=>
  simp at e f g h;rw[e,f,g,h]
theorem Gr(M:Nat):(n:Nat)->n<=M+1->(x:Tm n)->aB ⟨n,x⟩->(a:Ac (M+1))->qK M n x=some a->aw (M+2) (de M a) n x=true/\lU (M+1) a=true
 | 0,_,_,hr,_,_=>(cX hr).elim
 | n+1,hn,x,hr,a,h=>by
  have e:∀y∈bB n x,aB ⟨n,y⟩:=λy E=>dY hr E;have w:ez (M+1) (zT M)=true:=by
   have t:ByteArray.empty.toList=[]:=by rw[du];rfl
   simp[ez,iv,bm,zT,t]
  have u:tE .empty 0=true:=by
   have t:ByteArray.empty.toList=[]:=by rw[du];rfl
   simp[tE,t]
  have get:∀(d:List (Tm n))(s:Nat),s<d.length->∃y,d[s]?=some y/\y∈d:=λd s z=>⟨d[s],aA z,iS z⟩;simp only[qK,jg]at h;split at h
  ·rename_i b;simp only[az,bN]at b;obtain⟨k,j,l,m⟩:=fU hr b.1 (mn [115,101,110,100] (by simp));obtain⟨c,f,p⟩:=get _ 0 (by rw[b.2];omega);obtain⟨d,q,v⟩:=get _ 1 (by rw[b.2];omega);rw[f,q]at h;have i:a=(1,(aI (M+1) n c,aI (M+1) n d),(.empty,0)):=by simpa using h.symm
   have o:bB n x=[c,d]:=F8 b.2 f q;subst i;refine⟨bX k.symm ?_,u⟩;rw[l,o];show av _ [aQ iP M,aI (M+1) n c,aI (M+1) n d] [j,c,d]=true;simp only[av,m M,lA (M:=M) (by omega) (e c p),lA (M:=M) (by omega) (e d v),gH]
  split at h
  ·rename_i b;simp only[az,bN]at b;obtain⟨k,j,l,m⟩:=fU hr b.1 (mn [115,112,97,119,110] (by simp));obtain⟨c,f,p⟩:=get _ 0 (by rw[b.2];omega);obtain⟨d,q,v⟩:=get _ 1 (by rw[b.2];omega);obtain⟨g,B,A⟩:=get _ 2 (by rw[b.2];omega);rw[f,q,B]at h;simp only[dk,xb]at h;split at h
   ·rename_i r;have i:a=(2,(zT M,aI (M+1) n d),(vg n c,om n g)):=by simpa using h.symm
    have o:bB n x=[c,d,g]:=A7 b.2 f q B;subst i;cases n with
    | zero=>exact(cX (e c p)).elim
    | succ n=>
    have D:=vz (e g A) r.2;have C:=oW (e c p) r.1;refine⟨bX k.symm ?_,?_⟩
    ·rw[l,o];show av _ [aQ jj M,aQ c.1.2.2 M,aI (M+1) (n+1) d,aS 5 g.1.2.1 M] [j,c,d,g]=true;simp only[av,m M,lA (M:=M) (by omega) (e d v),qu (e c p) r.1 M,Hf (e g A) r.2 M,gH]
    ·show (ez (M+1) (zT M) && cg c.1.2.2 && decide (0<=g.1.2.1) && decide (g.1.2.1<4))=true;rw[w,C.2.2,jc D.2.2.1,jc (by omega)];rfl
   ·cases h
  split at h
  ·rename_i b;simp only[az,bN]at b;obtain⟨k,j,l,m⟩:=fU hr b.1 (mn [108,105,110,107] (by simp));obtain⟨c,f,p⟩:=get _ 0 (by rw[b.2];omega);rw[f]at h;have i:a=(3,(aI (M+1) n c,zT M),(.empty,0)):=by simpa using h.symm
   have o:bB n x=[c]:=F7 b.2 f;subst i;refine⟨bX k.symm ?_,?_⟩
   ·rw[l,o];show av _ [aQ mA M,aI (M+1) n c] [j,c]=true;simp only[av,m M,lA (M:=M) (by omega) (e c p),gH]
   ·show (ez (M+1) (zT M) && tE .empty 0)=true;rw[w,u];rfl
  split at h
  ·rename_i b;simp only[az,bN]at b;obtain⟨k,j,l,m⟩:=fU hr b.1 (mn [115,116,111,112] (by simp));have i:a=(4,(zT M,zT M),(.empty,0)):=by simpa using h.symm
   have o:bB n x=[]:=bK b.2;subst i;refine⟨bX k.symm ?_,?_⟩
   ·rw[l,o];show av _ [aQ mB M] [j]=true;simp only[av,m M,gH]
   ·show (ez (M+1) (zT M) && ez (M+1) (zT M) && tE .empty 0)=true;rw[w,u];rfl
  ·cases h
theorem ou{b:Type}{f g:b->Bool}:{l:List b}->(∀x∈l,f x=g x)->l.all f=l.all g
 | [],_=>rfl
 | a::l,h=>by
  simp only[List.all_cons,h a (by simp),ou (l:=l) λx c=>h x (by simp[c])]
theorem nn{d:Type}{n N:Nat}{f:Tm n->Option d}{g:d->Tm N}{B:d->Bool}(e:∀x a,aB ⟨n,x⟩->f x=some a->aw N (g a) n x=true/\B a=true):(p:List (Tm n))->(∀y∈p,aB ⟨n,y⟩)->(l:List d)->cF f p=some l->av (λa b=>aw N a n b) (l.map g) p=true/\l.all B=true/\l.length=p.length
 | [],_,l,c=>by
  simp[cF]at c;subst c;exact⟨rfl,rfl,rfl⟩
 | y::p,hr,l,c=>by
  simp only[cF]at c;obtain⟨a,k,c⟩:=bz.1 c;obtain⟨r,m,rfl⟩:=cD.1 c;obtain⟨h,i,j⟩:=nn e p (λz o=>hr z (by simp[o])) r m;obtain⟨q,s⟩:=e y a (hr y (by simp)) k;refine⟨?_,by simp[s,i],by simp[j]⟩;simp only[aH,av,q,h,gH]
theorem oQ{N M n:Nat}(c:n<=M+1)(b:M+1<=N){y:Tm n}(d:aB ⟨n,y⟩):aw N (aI N (M+1) (aI (M+1) n y)) n y=true:=by
 have a:=lA c d;exact bP _ _ _ _ _ _ (lu N (M+1) b _ (vC a)) a
theorem Gt(M:Nat):(n:Nat)->n<=M+1->(x:Tm n)->aB ⟨n,x⟩->(c:Cl (M+1))->wZ M n x=some c->aw (M+4) (eD M c) n x=true/\ri (M+1) c=true
 | 0,_,_,hr,_,_=>(cX hr).elim
 | n+1,hn,x,hr,c,h=>by
  have d:∀y∈bB n x,aB ⟨n,y⟩:=λy e=>dY hr e;have get:∀(q:List (Tm n))(i:Nat),i<q.length->∃y,q[i]?=some y/\y∈q:=λq i j=>⟨q[i],aA j,iS j⟩;simp only[wZ,qL]at h;split at h
  ·rename_i b;simp only[az,bN]at b;obtain⟨z,w,A,C⟩:=fU hr b.1 (mn [111,110] (by simp));obtain⟨p,k,m⟩:=get _ 0 (by rw[b.2];omega);obtain⟨q,o,I⟩:=get _ 1 (by rw[b.2];omega);obtain⟨r,u,f⟩:=get _ 2 (by rw[b.2];omega);obtain⟨t,v,J⟩:=get _ 3 (by rw[b.2];omega);rw[k,o,u,v]at h;simp only[dk]at h;split at h
   ·rename_i F;obtain⟨l,G,rfl⟩:=cD.1 h;have H:bB n x=[p,q,r,t]:=DJ b.2 k o u v;cases n with
    | zero=>exact(cX (d p m)).elim
    | succ n=>
    have s:r.1.1=4:=F;obtain⟨K,L,P⟩:=nn (g:=de M) (B:=lU (M+1)) (λy a e E=>Gr M n (by omega) y e a E) r.2.2 (λy e=>aU n r y (d r f) e) l G;have O:=lD (d r f) s;refine⟨bX z.symm ?_,?_⟩
    ·rw[A,H];show av _ [aQ B5 (M+2),aI (M+3) (M+1) (aI (M+1) (n+1) p),aI (M+3) (M+1) (aI (M+1) (n+1) q),cM (M+2) (l.map (de M)),aI (M+3) (M+1) (aI (M+1) (n+1) t)] [w,p,q,r,t]=true;have D:aw (M+3) (cM (M+2) (l.map (de M))) (n+1) r=true:=bX (vy (d r f) s).symm K;simp only[av,C (M+2),oQ (N:=M+3) (M:=M) (by omega) (by omega) (d p m),oQ (N:=M+3) (M:=M) (by omega) (by omega) (d q I),oQ (N:=M+3) (M:=M) (by omega) (by omega) (d t J),D,gH]
    ·show (decide ((l.length:Int)<=8) && l.all (lU (M+1)))=true;rw[L,jc (by omega)];rfl
   ·cases h
  ·cases h
theorem Gs(M:Nat):(n:Nat)->n<=M+1->(x:Tm n)->aB ⟨n,x⟩->(b:Bh (M+1))->wY M n x=some b->aw (M+5) (ek M b) n x=true/\(cg b.1 && decide ((b.2.2.length:Int)<=6) && b.2.2.all (ri (M+1)))=true
 | 0,_,_,hr,_,_=>(cX hr).elim
 | n+1,hn,x,hr,b,a=>by
  have e:∀y∈bB n x,aB ⟨n,y⟩:=λy d=>dY hr d;simp only[wY,rN]at a;split at a
  ·rename_i u;obtain⟨h,r,i,s⟩:=fU hr u (mn [98,101,104] (by simp));obtain⟨p,m,a⟩:=bz.1 a;split at a
   ·rename_i k;obtain⟨l,v,rfl⟩:=cD.1 a;have z:x.1.1=4:=by rw[h]
    have j:=lD hr z;generalize bB n x=f at*;cases f with
    | nil=>simp at m
    | cons c f=>
    have q:c=p:=by simpa using m
    subst q;cases n with
    | zero=>exact(cX (e c (by simp))).elim
    | succ n=>
    have w:=oW (e c (by simp)) k;obtain⟨A,C,D⟩:=nn (g:=eD M) (B:=ri (M+1)) (λy o d t=>Gt M (n+1) (by omega) y d o t) f (λy d=>e y (by simp[d])) l v;rw[i]at j;simp only[aW]at j;refine⟨bX h.symm ?_,?_⟩
    ·rw[i];show av _ (aQ nh (M+3)::aQ c.1.2.2 (M+3)::l.map (eD M)) (r::c::f)=true;simp only[av,s (M+3),qu (e c (by simp)) k (M+3),A,gH]
    ·show (cg c.1.2.2 && decide ((l.length:Int)<=6) && l.all (ri (M+1)))=true;rw[w.2.2,C,jc (by omega)];rfl
   ·cases a
  ·cases a
theorem zB(M:Nat):(n:Nat)->n<=M+1->(x:Tm n)->aB ⟨n,x⟩->(l:List (Bh (M+1)))->zy M n x=some l->aw (M+6) (cR M l) n x=true/\jy (M+1) l=(decide (1<=(l.length:Int)) && l.all λb=>decide (1<=(b.2.2.length:Int)))
 | 0,_,_,hr,_,_=>(cX hr).elim
 | n+1,hn,x,hr,l,h=>by
  have r:∀y∈bB n x,aB ⟨n,y⟩:=λy c=>dY hr c;simp only[zy]at h;split at h
  ·rename_i a;obtain⟨d,o,e,p⟩:=fU hr a (mn [99,111,100,101] (by simp));have s:x.1.1=4:=by rw[d]
   have f:=lD hr s;obtain⟨t,i,u⟩:=nn (g:=ek M) (B:=λb=>cg b.1 && decide ((b.2.2.length:Int)<=6) && b.2.2.all (ri (M+1))) (λy j c q=>Gs M n (by omega) y c j q) (bB n x) r l h;rw[e]at f;simp only[aW]at f;refine⟨bX d.symm ?_,?_⟩
   ·rw[e];show av _ (aQ iO (M+4)::l.map (ek M)) (o::bB n x)=true;simp only[av,p (M+4),t,gH]
   ·have k:decide ((l.length:Int)<=7)=true:=jc (by omega);have m:l.all (sI (M+1))=l.all λb=>decide (1<=(b.2.2.length:Int)):=by
     rw[bS]at i;refine ou λb a=>?_;have:=i b a;simp only[az]at this;simp only[sI,this.1.1,this.1.2,this.2,ed,Bool.and_true]
    simp only[jy,k,m,Bool.and_true]
  ·cases h
end Go.Proofs.YtnidfceinoiboaaGreat
