/- What is proved here: plain facts and contracts that the claimed theorem stands on. No condition but those that each names. -/
import Derived.Test.YtckamaoibonjcaaGreatH29
namespace Go.Proofs.YtckamaoibonjcaaGreat
open Go.RowKit Go.Maps
set_option maxRecDepth 100000
set_option maxHeartbeats 4000000
structure SM (base mb n:Nat) (g:Int×Int->Bool) (w:World):Prop where
 lo:base<=mb
 map:∃D:DataW Value,w.ownsMap Tryz.prog 164 unitElem mb n D/\∀k,I2 k->has D (kl k)=g k
variable {base mb n:Nat} {g:Int×Int->Bool} {w:World}
theorem SM.lt(a:SM base mb n g w):base<=mb/\mb<w.heap.size:=by
 obtain⟨c,b,_⟩:=a.map;exact⟨a.lo,b.lt⟩
theorem SM.kee{S:Nat->Prop}{w':World}(a:SM base mb n g w)(k:bk S w w')(f:¬S mb):SM base mb n g w':=by
 obtain⟨c,b,e⟩:=a.map;refine⟨a.lo,c,?_,e⟩;have i:=b.lt;obtain⟨es,d,h,j⟩:=b;exact⟨es,d,(k.block mb i f).trans h,j⟩
theorem SM.later{w':World}(a:SM base mb n g w)(k:ai w w'):SM base mb n g w':=a.kee (aD k λ_=>False) id
theorem SM.rebase{a:Nat}(b:SM base mb n g w)(c:a<=base):SM a mb n g w:=⟨ax c b.lo,b.map⟩
theorem SM.mono(b:SM base mb n g w){m:Nat}(f:n<=m):SM base mb m g w:=by
 obtain⟨c,a,d,e⟩:=b;exact⟨c,a,d.mono f,e⟩
theorem SM.new(w:World):SM w.heap.size w.heap.size 0 (λ_=>false) (w.alloc (.map #[] 0)):=
 ⟨aj _,.map [],oM w _ _ _,λk _=>by simp[has]⟩
theorem BK(w:World):(zeroValue 231).run Tryz.prog w=.ok (.agg #[]) w:=by kernel_rfl
theorem SM.look(b:SM base mb n g w){k:Int×Int}(a:I2 k):(Instr.lookup 66 (.map (some mb)) (pk k) true).run Tryz.prog w=.ok (.tuple #[.agg #[],.bool (g k)]) w:=by
 obtain⟨h,c,d⟩:=b.map;obtain⟨i,ps,e,f⟩:=c.look_ok eT Tryz.underlying66 (BK w) unitElem_mk (fA a);obtain⟨rfl,_⟩:=unitElem_inv f;rw[e,d k a]
theorem Df(w:World){k:Int×Int}(b:I2 k):(Instr.lookup 66 (.map none) (pk k) true).run Tryz.prog w=.ok (.tuple #[.agg #[],.bool false]) w:=by
 have a:=look_nil (P:=Tryz.prog) (w:=w) true eT Tryz.underlying66 (BK w) (fA b);simpa using a
theorem SM.put(d:SM base mb n g w){k:Int×Int}(c:I2 k)(s:n<1000000):∃w2,(Instr.mapUpdate 66 (.map (some mb)) (pk k) (.agg #[])).run Tryz.prog w=.ok () w2/\SM base mb (n+1) (gY g k true) w2/\bk (λb=>b=mb) w w2/\w2.heap.size=w.heap.size:=by
 obtain⟨r,e,j⟩:=d.map;obtain⟨w2,o,m,q⟩:=e.store eT Tryz.underlying66 (by unfold maxLen;omega) (fA c) unitElem_mk;obtain⟨l,p⟩:=iD q;refine⟨w2,o,⟨d.lo,_,m,λh f=>?_⟩,l,p⟩;by_cases a:h=k
 ·rw[a,cF,has_put_same e.isMap (eT.key (fA c))]
 ·rw[bM _ _ a,has_put_other λi=>a (pD f c i)];exact j h f
theorem SM.drop(c:SM base mb n g w){k:Int×Int}(e:I2 k)(ty:TypeId):∃w2,(Builtin.delete_ #[66,164] ty #[.map (some mb),pk k]).run Tryz.prog w=.ok (.tuple #[]) w2/\SM base mb n (gY g k false) w2/\bk (λb=>b=mb) w w2/\w2.heap.size=w.heap.size:=by
 obtain⟨r,i,j⟩:=c.map;obtain⟨w2,o,m,q⟩:=i.drop eT Tryz.underlying66 (fA e) ty;obtain⟨l,p⟩:=iD q;refine⟨w2,o,⟨c.lo,_,m,λf d=>?_⟩,l,p⟩;by_cases a:f=k
 ·rw[a,cF,has_del_same]
 ·rw[bM _ _ a,has_del_other λh=>a (pD d e h)];exact j f d
/-! ### rows of numbers -/
def jn(l:List Int):List Value:=l.map (Value.int .i64)
theorem kS(l:List Int)(k:Int):jn (l++ [k])=jn l++ [ab k]:=by simp[jn]
def ig(base:Nat)(v:Value)(l:List Int)(w:World):Prop:=w.ownsRow base 3 1 v l.length (jn l)
def sM(v:Value)(l:List Int)(w:World):Prop:=∃a c,v=.slice a l.length c/\(l=[]\/∃g o,a=some ⟨g,o,none⟩/\g<w.heap.size/\∀(i:Nat)(k:Int),l[i]?=some k->w.cell? ⟨g,o+i,none⟩=some (ab k))
theorem ig.row{v:Value}{l:List Int}(c:ig base v l w):sM v l w:=by
 have d:=c;rcases c.2 with⟨rfl,b⟩|⟨g,cap,i,rfl,_,e,_⟩
 ·exact⟨none,0,by rw[b],ag (bB b)⟩
 ·refine⟨some ⟨g,0,none⟩,cap,rfl,ah ⟨g,0,rfl,(aC.1 e).1,λh k f=>?_⟩⟩;have a:=d.cells (g:=g) rfl h (ab k) (by simp[jn,f]);rw[eI,cP]at a;rw[cP];exact a
theorem ig.nil(base:Nat)(w:World):ig base (.slice none 0 0) [] w:=⟨rfl,ag ⟨rfl,rfl⟩⟩
theorem ig.later{v:Value}{l:List Int}{w':World}(a:ig base v l w)(k:ai w w'):ig base v l w':=aY a (aD k λ_=>False) λ_ _ a=>a
theorem sM.later{v:Value}{l:List Int}{w':World}(a:sM v l w)(k:ai w w'):sM v l w':=by
 obtain⟨f,c,b,a⟩:=a;refine⟨f,c,b,?_⟩;rcases a with a|⟨g,o,b,d,a⟩
 ·exact ag a
 ·exact ah ⟨g,o,b,aL d k.size,λe i h=>(k.cell (p:=⟨g,o+e,none⟩) d).trans (a e i h)⟩
def nj(a:Int):Bool:=decide (1<=a) && decide (a<=99)
theorem lC(a:Int)(w:World):ak 146 #[ab a] w λe w'=>e=.returned (.bool (nj a))/\w'=w:=by
 go_enter Tryz.func146,Tryz.ntmps146;by_cases b:1<=a
 ·go_wp2_with fail
  go_ret
  exact⟨bK (by simp[nj,b]),rfl⟩
 ·go_wp2_with fail
  go_ret
  exact⟨bK (by simp[nj];omega),rfl⟩
theorem nW(x y:Int)(w:World):ak 141 #[ab x,ab y] w λe w'=>e=.returned (.agg #[ab (iy x y).1,ab (iy x y).2])/\ai w w':=by
 go_enter Tryz.func141,Tryz.ntmps141;go_wp2_with fail
 all_goals
  exact ar (v:=.agg #[ab (iy x y).1,ab (iy x y).2]) (by simp[results,Tryz.results141,go_sem,iy]<;>omega) rfl ⟨rfl,(am _ _).alloc (aj _) _⟩
theorem jB{base e sz n:Nat}{v:Value}{xs:List Value}{w d:World}{o:Obj}(f:w.ownsRow base e sz v n xs)(c:(w.alloc o).grownBy d v.ownBlock)(g:base<=w.heap.size):Below base w d:=by
 have a:Below base w (w.alloc o):=(am _ _).alloc g _;refine⟨c.os.trans a.os,c.tape.trans a.tape,c.output.trans a.output,ax a.size c.size,λb h=>(c.block b (by simp;omega) λe=>?_).trans (a.block b h)⟩;have:=(f.lt b e.symm).1;omega
theorem yr{x y:Int}(b:dk x)(c:dk y):I2 (iy x y):=by
 rcases gE x y with⟨a,_⟩|⟨a,_⟩<;>rw[a]
 ·exact⟨b,c⟩
 ·exact⟨c,b⟩
theorem NR(b:Nat)(a:b<=1000):dk (b:Int):=by unfold dk;omega
theorem Hp(g:Int×Int->Bool)(i:BL)(R:Option Nat)(x:Int)(w:World)(ah:i.b<w.heap.size)(aw:Hid (dk x))(ae:Hid (w.cell? ⟨i.b,i.o,none⟩=some (.map R)))(s:Hid (∀k,I2 k->∀W,ai w W->(Instr.lookup 66 (.map R) (pk k) true).run Tryz.prog W=.ok (.tuple #[.agg #[],.bool (g k)]) W)):ak 140 #[.pointer (some ⟨i.b,i.o,none⟩),ab x] w λe w'=>∃v,e=.returned v/\Hid (ig w.heap.size v (pZ g x) w'/\ai w w'):=by
 obtain⟨C,al,aq,ar,au⟩:=bQ Ec;have l:Hid (Tryz.prog.info? 3=some C/\C.zero=some (ab 0)/\C.size=1/\C.bytes=8):=⟨al,aq,ar,au⟩;clear al aq ar au;go_enter Tryz.func140,Tryz.ntmps140;go_wp2_with fail;go_loopw [5,6] (λv ad wr=>∃(b:Nat),1<=b/\b<=100/\ad=ab b/\(∃q d c,v=.slice q d c/\d<=99/\Hid ((qG g x (b-1)).length=d/\wr.ownsRow w.heap.size 3 1 (.slice q d c) d (jn (qG g x (b-1)))/\ai w wr))) (λ_ ad _=>100-(intOf ad).toNat)
 case atStart=>exact⟨1,by omega,by omega,rfl,none,0,0,rfl,by omega,rfl,⟨rfl,ag ⟨rfl,rfl⟩⟩,am _ _⟩
 case round=>
  obtain⟨b,aE,F,rfl,q,d,c,rfl,Y,a⟩:=hrel;by_cases aB:b<=99
  ·have aC:(b:Int)<=99:=by omega
   have X:wr.cell? ⟨i.b,i.o,none⟩=some (.map R):=(a.out.2.2.cell (p:=⟨i.b,i.o,none⟩) ah).trans ae.out;have af:Hid (I2 (iy x b)):=yr aw.out (NR b (by omega));have j:Hid (qG g x b=qG g x (b-1)++if g (iy x b)then [(b:Int)]else []):=by
    have y:=FS g x (b-1) (by omega);have ax:b-1+1=b:=by omega
    have ay:((b-1:Nat):Int)+1=(b:Int):=by omega
    rw[ax,ay]at y;exact y
   have O:=λW Z=>s.out (iy x b) af.out W (a.out.2.2.trans (Below.mono Z a.out.2.2.size));have aa:=λW=>nW x b W;obtain⟨t,ap⟩:∃t,t=g (iy x b):=⟨_,rfl⟩;rw[<-ap]at O j;have V:=ao (show d<=b-1 by have:=AJ g x (b-1);have:=a.out.1;omega);unfold pk at O;obtain⟨⟨aF,aG⟩,aA⟩:∃p,p=iy x b:=⟨_,rfl⟩;rw[<-aA]at O aa;have J:=ao aa;replace s:=ao O;have B:Hid (∀W,ai wr W->W.cell? ⟨i.b,i.o,none⟩=some (.map R)):=λW Z=>((a.out.2.2.trans (Below.mono Z a.out.2.2.size)).cell (p:=⟨i.b,i.o,none⟩) ah).trans ae.out;have D:Hid (ai wr wr.drew):=(am _ _).drew;have E:Hid (∀o:Obj,ai wr (wr.alloc o).drew):=λo=>((am _ _).alloc (aj _) o).drew;clear ap O aa af;go_wp2_with fail
   go_region_held3 (λW=>W.cell? ⟨i.b,i.o,none⟩=some (.map R)) (first|(go_keep;done)|exact B.out _ D.out|exact B.out _ (E.out _)|exact B.out _ (f.out.alloc f.out.size _)|exact B.out _ f.out) ((first
    | (go_at_call 141;refine(J.out _).mono ?_;rintro e G ⟨rfl,F⟩;have f:=ao (D.out.trans (F.mono D.out.size));have U:=s.out _ f.out;have an:=s.out _ (f.out.alloc f.out.size (.cells #[] 231));clear F)
    | (go_at_call 141;refine(J.out _).mono ?_;rintro e G ⟨rfl,F⟩;have f:=ao ((E.out _).trans (F.mono (E.out _).size));have U:=s.out _ f.out;clear F)))
   ·obtain⟨h,r⟩:∃h,h=G.alloc (.cells #[] 231):=⟨_,rfl⟩;rw[<-r];have n:Hid (ai wr h):=by rw[r];exact f.out.alloc f.out.size _
    obtain⟨S,Q⟩:∃S,S=G.heap.size:=⟨_,rfl⟩;rw[<-Q];clear r an Q;have HB:=ao (a.out.2.2.trans (n.out.mono a.out.2.2.size));have m:=ao (aY a.out.2.1 (aD n.out λ_=>False) λ_ _ y=>y);have u:=ao a.out.1;have K:=ao HB.out.size;clear a f n s J B D E U X;cases t
    ·go_wp2_with fail;go_roundw
     case rel=>exact⟨b+1,by omega,by omega,by go_num,q,d,c,rfl,Y,by rw[eM,j.out];simpa using u.out,by rw[eM,j.out];simpa using m.out,HB.out⟩
     case measure=>simp[intOf];omega
    ·go_wp2_with (first
       | (at_builtin;refine wpList_append_lies _ rfl _ _ 44 rfl w.heap.size 3 C _ 1 8 Tryz.underlying44 l.out.1 l.out.2.1 l.out.2.2.1 l.out.2.2.2 rfl (by decide) (.slice q d c) d (jn (qG g x (b-1))) rfl (m.out.alloc _) ⟨h.heap.size,0,none⟩ 1 1 [ab b] rfl rfl (World.news_of_block (cs:= #[ab b]) (t:=3) (fr:=(0,0)) (az h _)) (by simp[Value.oneCell']) (by decide) (by unfold maxLen;omega) (by omega) (by have:=K.out;simp;omega) _ rfl ?_;intro M L av A z N P;have I:=ao A;have H:=ao (HB.out.trans (jB m.out z HB.out.size));clear A z N P))
     go_roundw
     case rel=>
      refine⟨b+1,by omega,by omega,by go_num,some ⟨M,0,none⟩,d+1,L,rfl,by have:=V.out;omega,?_,?_,H.out⟩
      ·rw[eM,j.out];simpa using u.out
      ·rw[eM,j.out,if_pos rfl,kS];exact I.out
     case measure=>simp[intOf];omega
   ·obtain⟨h,r⟩:∃h,h=G.alloc (.cells #[] 231):=⟨_,rfl⟩;rw[<-r];have n:Hid (ai wr h):=by rw[r];exact f.out.alloc f.out.size _
    obtain⟨S,Q⟩:∃S,S=G.heap.size:=⟨_,rfl⟩;rw[<-Q];clear r Q;have HB:=ao (a.out.2.2.trans (n.out.mono a.out.2.2.size));have m:=ao (aY a.out.2.1 (aD n.out λ_=>False) λ_ _ y=>y);have u:=ao a.out.1;have K:=ao HB.out.size;clear a f n s J B D E U an X;cases t
    ·go_wp2_with fail;go_roundw
     case rel=>exact⟨b+1,by omega,by omega,by go_num,q,d,c,rfl,Y,by rw[eM,j.out];simpa using u.out,by rw[eM,j.out];simpa using m.out,HB.out⟩
     case measure=>simp[intOf];omega
    ·go_wp2_with (first
       | (at_builtin;refine wpList_append_lies _ rfl _ _ 44 rfl w.heap.size 3 C _ 1 8 Tryz.underlying44 l.out.1 l.out.2.1 l.out.2.2.1 l.out.2.2.2 rfl (by decide) (.slice q d c) d (jn (qG g x (b-1))) rfl (m.out.alloc _) ⟨h.heap.size,0,none⟩ 1 1 [ab b] rfl rfl (World.news_of_block (cs:= #[ab b]) (t:=3) (fr:=(0,0)) (az h _)) (by simp[Value.oneCell']) (by decide) (by unfold maxLen;omega) (by omega) (by have:=K.out;simp;omega) _ rfl ?_;intro M L av A z N P;have I:=ao A;have H:=ao (HB.out.trans (jB m.out z HB.out.size));clear A z N P))
     go_roundw
     case rel=>
      refine⟨b+1,by omega,by omega,by go_num,some ⟨M,0,none⟩,d+1,L,rfl,by have:=V.out;omega,?_,?_,H.out⟩
      ·rw[eM,j.out];simpa using u.out
      ·rw[eM,j.out,if_pos rfl,kS];exact I.out
     case measure=>simp[intOf];omega
   ·obtain⟨h,r⟩:∃h,h=G:=⟨_,rfl⟩;subst r;have n:=ao f.out;have HB:=ao (a.out.2.2.trans (n.out.mono a.out.2.2.size));have m:=ao (aY a.out.2.1 (aD n.out λ_=>False) λ_ _ y=>y);have u:=ao a.out.1;have K:=ao HB.out.size;clear a f n s J B D E U X;cases t
    ·go_wp2_with fail;go_roundw
     case rel=>exact⟨b+1,by omega,by omega,by go_num,q,d,c,rfl,Y,by rw[eM,j.out];simpa using u.out,by rw[eM,j.out];simpa using m.out,HB.out⟩
     case measure=>simp[intOf];omega
    ·go_wp2_with (first
       | (at_builtin;refine wpList_append_lies _ rfl _ _ 44 rfl w.heap.size 3 C _ 1 8 Tryz.underlying44 l.out.1 l.out.2.1 l.out.2.2.1 l.out.2.2.2 rfl (by decide) (.slice q d c) d (jn (qG g x (b-1))) rfl (m.out.alloc _) ⟨h.heap.size,0,none⟩ 1 1 [ab b] rfl rfl (World.news_of_block (cs:= #[ab b]) (t:=3) (fr:=(0,0)) (az h _)) (by simp[Value.oneCell']) (by decide) (by unfold maxLen;omega) (by omega) (by have:=K.out;simp;omega) _ rfl ?_;intro M L av A z N P;have I:=ao A;have H:=ao (HB.out.trans (jB m.out z HB.out.size));clear A z N P))
     go_roundw
     case rel=>
      refine⟨b+1,by omega,by omega,by go_num,some ⟨M,0,none⟩,d+1,L,rfl,by have:=V.out;omega,?_,?_,H.out⟩
      ·rw[eM,j.out];simpa using u.out
      ·rw[eM,j.out,if_pos rfl,kS];exact I.out
     case measure=>simp[intOf];omega
  ·obtain rfl:b=100:=by omega
   have T:=a.out;go_wp2_with fail
   go_ret
   refine⟨_,rfl,?_,T.2.2⟩;have e:=I7 g x;rw[show 100-1=99 from rfl]at T;rw[<-e];unfold ig;rw[T.1];exact T.2.1
def ey(base:Nat)(c:BL)(a:Option Nat)(n:Nat)(g:Int×Int->Bool)(w:World):Prop:=
 base<=c.b/\sL c a w/\((a=none/\g=λ_=>false)\/∃mb,a=some mb/\SM base mb n g w)
def Kx(a:BL)(c:Option Nat)(b:Nat):Prop:=b=a.b\/c=some b
variable {base n:Nat} {bp:BL} {mo:Option Nat} {g:Int×Int->Bool} {w:World}
theorem ey.lt(d:ey base bp mo n g w)(b:Nat)(a:Kx bp mo b):base<=b/\b<w.heap.size:=by
 rcases a with rfl|a
 ·exact⟨d.1,d.2.1.lt⟩
 ·rcases d.2.2 with⟨c,_⟩|⟨mb,c,e⟩
  ·rw[c]at a;cases a
  ·rw[c]at a;injection a with a;subst a;exact e.lt
theorem ey.kee{S:Nat->Prop}{w':World}(c:ey base bp mo n g w)(k:bk S w w')(d:∀b,Kx bp mo b->¬S b):ey base bp mo n g w':=by
 refine⟨c.1,c.2.1.kept (k.block bp.b (c.lt bp.b (ag rfl)).2 (d bp.b (ag rfl))),?_⟩;rcases c.2.2 with a|⟨mb,a,e⟩
 ·exact ag a
 ·exact ah ⟨mb,a,e.kee k (d mb (ah a))⟩
theorem ey.later{w':World}(a:ey base bp mo n g w)(k:ai w w'):ey base bp mo n g w':=a.kee (aD k λ_=>False) λ_ _ a=>a
theorem ey.cell(a:ey base bp mo n g w):w.cell? ⟨bp.b,bp.o,none⟩=some (.map mo)/\w.frozen? ⟨bp.b,bp.o,none⟩=false:=⟨a.2.1.cell.1,a.2.1.cell.2 _⟩
theorem ey.look(b:ey base bp mo n g w){k:Int×Int}(a:I2 k):(Instr.lookup 66 (.map mo) (pk k) true).run Tryz.prog w=.ok (.tuple #[.agg #[],.bool (g k)]) w:=by
 rcases b.2.2 with⟨rfl,rfl⟩|⟨mb,rfl,c⟩
 ·exact Df w a
 ·exact c.look a
theorem ey.ne{mb:Nat}(c:ey base bp (some mb) n g w):bp.b≠mb:=by
 intro e;rcases c.2.2 with⟨a,_⟩|⟨j,a,f⟩
 ·cases a
 ·injection a with a;subst a e;obtain⟨h,⟨es,i,d,_⟩,_⟩:=f.map;rw[c.2.1.2]at d;cases d
theorem KA(a:ey base bp mo n g w){x:Int}(f:dk x):ak 140 #[.pointer (some ⟨bp.b,bp.o,none⟩),ab x] w λe w'=>∃v,e=.returned v/\Hid (ig w.heap.size v (pZ g x) w'/\ai w w'):=
 Hp g bp mo x w (a.lt bp.b (ag rfl)).2 f a.cell.1 λ_ d _ c=>(a.later c).look d
theorem KC(mb:Nat)(W:World):(binOp .eql 66 (.map (some mb)) (.map none)).run Tryz.prog W=.ok (.bool false) W:=by kernel_rfl
theorem KB(W:World):(binOp .eql 66 (.map none) (.map none)).run Tryz.prog W=.ok (.bool true) W:=by kernel_rfl
theorem Hm(bp:BL)(mb:Nat)(x y:Int)(w:World)(g:World->Prop)(v:bp.b<w.heap.size)(i:Hid (w.cell? ⟨bp.b,bp.o,none⟩=some (.map (some mb))))(l:Hid (nj x=true/\nj y=true))(C:x≠y)(k:Hid (∀W,ai w W->∃w2,(Instr.mapUpdate 66 (.map (some mb)) (.agg #[ab (iy x y).1,ab (iy x y).2]) (.agg #[])).run Tryz.prog W=.ok () w2/\w2.cell? ⟨bp.b,bp.o,none⟩=some (.map (some mb))/\Hid (g w2))):ak 108 #[.pointer (some ⟨bp.b,bp.o,none⟩),ab x,ab y] w λe w'=>e=.returned (ab 0)/\g w':=by
 have B:=i.out;have c:=λW=>lC x W;have d:=λW=>lC y W;have D:=KC mb;rw[l.out.1]at c;rw[l.out.2]at d;have n:=ao c;have q:=ao d;clear c d;have f:=λW=>nW x y W;obtain⟨⟨F,G⟩,A⟩:∃p,p=iy x y:=⟨_,rfl⟩;rw[<-A]at f k;have t:=ao f;clear f;have j:Hid (∀W,ai w W->W.cell? ⟨bp.b,bp.o,none⟩=some (.map (some mb))):=λW u=>(u.cell (p:=⟨bp.b,bp.o,none⟩) v).trans i.out;have a:Hid (ai w w.drew):=(am _ _).drew;go_enter Tryz.func108,Tryz.ntmps108;go_wp2_with fail;refine(n.out _).mono ?_;rintro e H ⟨rfl,rfl⟩;go_wp2_with fail;refine(q.out _).mono ?_;rintro e w2 ⟨rfl,rfl⟩;go_wp2_with fail
 go_region_held3 (λW=>W.cell? ⟨bp.b,bp.o,none⟩=some (.map (some mb))) (first|(go_keep;done)|exact j.out _ a.out|exact j.out _ h.out|exact r.out) ((first
       | (go_at_call 141;refine(t.out _).mono ?_;rintro e I ⟨rfl,m⟩;have h:=ao (a.out.trans (m.mono a.out.size));obtain⟨J,E,z,s⟩:=k.out _ h.out;have r:=ao z;clear m)))
 go_wp2_with fail
 go_ret
 exact⟨rfl,s.out⟩
theorem ET(bp:BL)(x y:Int)(w w0:World)(g:World->Prop)(H:bp.b<w.heap.size)(s:Hid (w.cell? ⟨bp.b,bp.o,none⟩=some (.map none)/\w.frozen? ⟨bp.b,bp.o,none⟩=false))(l:Hid (nj x=true/\nj y=true))(J:x≠y)(n:w0=(w.setCell ⟨bp.b,bp.o,none⟩ (.map (some w.heap.size))).alloc (.map #[] 0))(i:Hid (w0.cell? ⟨bp.b,bp.o,none⟩=some (.map (some w.heap.size))))(B:bp.b<w0.heap.size)(k:Hid (∀W,ai w0 W->∃w2,(Instr.mapUpdate 66 (.map (some w.heap.size)) (.agg #[ab (iy x y).1,ab (iy x y).2]) (.agg #[])).run Tryz.prog W=.ok () w2/\w2.cell? ⟨bp.b,bp.o,none⟩=some (.map (some w.heap.size))/\Hid (g w2))):ak 108 #[.pointer (some ⟨bp.b,bp.o,none⟩),ab x,ab y] w λe w'=>e=.returned (ab 0)/\g w':=by
 obtain⟨E,G⟩:=s.out;have c:=λW=>lC x W;have d:=λW=>lC y W;have K:=KB;have I:= @run_makeMap Tryz.prog;rw[l.out.1]at c;rw[l.out.2]at d;have q:=ao c;have r:=ao d;clear c d;have f:=λW=>nW x y W;obtain⟨⟨M,N⟩,D⟩:∃p,p=iy x y:=⟨_,rfl⟩;rw[<-D]at f k;have v:=ao f;have z:=ao n;clear f n;have j:Hid (∀W,ai w0 W->W.cell? ⟨bp.b,bp.o,none⟩=some (.map (some w.heap.size))):=λW A=>(A.cell (p:=⟨bp.b,bp.o,none⟩) B).trans i.out;have a:Hid (ai w0 w0.drew):=(am _ _).drew;go_enter Tryz.func108,Tryz.ntmps108;go_wp2_with fail;refine(q.out _).mono ?_;rintro e O ⟨rfl,rfl⟩;go_wp2_with fail;refine(r.out _).mono ?_;rintro e w2 ⟨rfl,rfl⟩;go_wp2_with fail;rw[<-z.out];have F:=i.out
 go_region_held3 (λW=>W.cell? ⟨bp.b,bp.o,none⟩=some (.map (some w2.heap.size))) (first|(go_keep;done)|exact j.out _ a.out|exact j.out _ h.out|exact t.out) ((first
       | (go_at_call 141;refine(v.out _).mono ?_;rintro e P ⟨rfl,m⟩;have h:=ao (a.out.trans (m.mono a.out.size));obtain⟨Q,L,C,u⟩:=k.out _ h.out;have t:=ao C;clear m)))
 go_wp2_with fail
 go_ret
 exact⟨rfl,u.out⟩
theorem ES(bp:BL)(x y:Int)(w:World)(a:nj x=false\/nj y=false\/x=y):ak 108 #[.pointer (some ⟨bp.b,bp.o,none⟩),ab x,ab y] w λe w'=>e=.returned (ab 1)/\w'=w:=by
 have f:=λc=>lC x c;have g:=λc=>lC y c;obtain⟨d,h⟩:∃d,d=nj x:=⟨_,rfl⟩;obtain⟨b,i⟩:∃b,b=nj y:=⟨_,rfl⟩;rw[<-h]at f a;rw[<-i]at g a;have k:=ao f;have l:=ao g;have m:=ao a;clear f g h i a;go_enter Tryz.func108,Tryz.ntmps108;go_wp2_with fail;refine(k.out _).mono ?_;rintro e p ⟨rfl,rfl⟩;cases d
 ·go_wp2_with fail
  go_ret
  exact⟨rfl,rfl⟩
 ·go_wp2_with fail;refine(l.out _).mono ?_;rintro e q ⟨rfl,rfl⟩;cases b
  ·go_wp2_with fail
   go_ret
   exact⟨rfl,rfl⟩
  ·have j:x=y:=by simpa using m.out
   have n:=ao j;subst j;go_wp2_with fail
   go_ret
   exact⟨rfl,rfl⟩
variable {base n:Nat} {bp:BL} {mo:Option Nat} {g:Int×Int->Bool} {w:World}
def uy(x y:Int):Int:=if nj x=true/\nj y=true/\x≠y then 0 else 1
def Mk(base:Nat)(bp:BL)(mo:Option Nat)(n:Nat)(g:Int×Int->Bool)(w w':World):Prop:=
 ∃a,ey base bp a n g w'/\bk (Kx bp mo) w w'/\∀b,Kx bp a b->Kx bp mo b\/w.heap.size<=b
theorem ey.mono(b:ey base bp mo n g w){m:Nat}(c:n<=m):ey base bp mo m g w:=by
 refine⟨b.1,b.2.1,?_⟩;rcases b.2.2 with a|⟨mb,a,d⟩
 ·exact ag a
 ·exact ah ⟨mb,a,d.mono c⟩
theorem ER(a:ey base bp mo n g w){x y:Int}(z:dk x)(A:dk y)(v:n<1000000):ak 108 #[.pointer (some ⟨bp.b,bp.o,none⟩),ab x,ab y] w λe w'=>e=.returned (ab (uy x y))/\Hid (Mk base bp mo (n+1) (if uy x y=0 then gY g (iy x y) true else g) w w'):=by
 have q:=a.lt bp.b (ag rfl);by_cases f:nj x=true/\nj y=true/\x≠y
 ·have p:uy x y=0:=if_pos f;rw[p,if_pos rfl];rcases a.2.2 with⟨rfl,rfl⟩|⟨mb,rfl,D⟩
  ·obtain⟨h,l⟩:∃h,h=(w.setCell ⟨bp.b,bp.o,none⟩ (.map (some w.heap.size))).alloc (.map #[] 0):=⟨_,rfl⟩;have G:bk (λb=>b=bp.b) w (w.setCell ⟨bp.b,bp.o,none⟩ (.map (some w.heap.size))):=bt w bp.b bp.o _;have s:(w.setCell ⟨bp.b,bp.o,none⟩ (.map (some w.heap.size))).heap.size=w.heap.size:=by simp[World.setCell]
   have F:bk (λb=>b=bp.b) w h:=by
    rw[l];exact bk.trans G (aD ((am _ _).alloc (aj _) _) λ_=>False) λ_ _ a=>a.elim
   have t:sL bp (some w.heap.size) h:=by
    rw[l];exact(a.2.1.set).kept (((am _ _).alloc (aj _) _).block bp.b (by rw[s];exact q.2))
   have H:h.heap.size=w.heap.size+1:=by rw[l,gK,s]
   have C:SM base w.heap.size n (λ_=>false) h:=by
    have u:=SM.new (w.setCell ⟨bp.b,bp.o,none⟩ (.map (some w.heap.size)));rw[s,<-l]at u;exact(u.rebase (by omega)).mono (aF _)
   refine(ET bp x y w h (λw'=>Mk base bp none (n+1) (gY (λ_=>false) (iy x y) true) w w') q.2 a.cell ⟨f.1,f.2.1⟩ f.2.2 l t.cell.1 (by omega) ?_).mono λe w' a=>⟨a.1,a.2⟩;intro B d;obtain⟨m,r,i,k,E⟩:=(C.later d).put (yr z A) v;have j:sL bp (some w.heap.size) m:=(t.kept (d.block bp.b (by omega))).kept (k.block bp.b (by have:=d.size;omega) (by omega));refine⟨m,r,j.cell.1,some w.heap.size,⟨a.1,j,ah ⟨_,rfl,i⟩⟩,?_,λb c=>?_⟩
   ·refine bk.trans (bk.trans (F.mono λb _ e=>ag e) (aD d λ_=>False) λ_ _ a=>a.elim) k λb c e=>?_;omega
   ·rcases c with c|c
    ·exact ag (ag c)
    ·injection c with c;exact ah (by omega)
  ·refine(Hm bp mb x y w (λw'=>Mk base bp (some mb) (n+1) (gY g (iy x y) true) w w') q.2 a.cell.1 ⟨f.1,f.2.1⟩ f.2.2 ?_).mono λe w' a=>⟨a.1,a.2⟩;intro B d;obtain⟨m,r,i,k,E⟩:=(D.later d).put (yr z A) v;have j:sL bp (some mb) m:=(a.2.1.kept (d.block bp.b (by omega))).kept (k.block bp.b (by have:=d.size;omega) a.ne);refine⟨m,r,j.cell.1,some mb,⟨a.1,j,ah ⟨_,rfl,i⟩⟩,?_,λb c=>ag c⟩;exact bk.trans (aD d _) k λb _ e=>ah (by rw[e])
 ·have p:uy x y=1:=if_neg f;rw[p,if_neg (by decide)];refine(ES bp x y w ?_).mono ?_
  ·cases h1:nj x
   ·exact ag rfl
   ·cases i:nj y
    ·exact ah (ag rfl)
    ·refine ah (ah ?_);by_cases e:x=y
     ·exact e
     ·exact absurd ⟨h1,i,e⟩ f
  ·rintro e w' ⟨rfl,rfl⟩;exact⟨rfl,mo,a.mono (fe n),bk.refl _ _,λb c=>ag c⟩
theorem Cu(a:Option Addr)(c:Nat)(l:List Int)(L:Nat)(y:Int)(w:World)(x:L<=1000000)(n:Hid (l.length=L))(q:Hid (∀(i:Nat)(k:Int),l[i]?=some k->∃g o,a=some ⟨g,o,none⟩/\w.cell? ⟨g,o+i,none⟩=some (ab k))):ak 142 #[.slice a L c,ab y] w λe w'=>∃r:Int,e=.returned (ab r)/\w'=w/\Hid (decide (0<=r)=l.contains y):=by
 go_enter Tryz.func142,Tryz.ntmps142;go_wp2_with fail;go_loopw [8] (λi wr=>∃b:Nat,b<=L/\i=ab b/\wr=w/\Hid (y∉l.take b)) (λi _=>L-(intOf i).toNat)
 case atStart=>exact⟨0,aF _,rfl,rfl,by simp[Hid]⟩
 case round=>
  obtain⟨b,u,rfl,rfl,p⟩:=hrel;by_cases s:b<L
  ·obtain⟨k,j⟩:∃k,l[b]?=some k:=⟨l[b]'(by rw[n.out];exact s),aE _⟩;obtain⟨g,o,rfl,t⟩:=q.out b k j;have m:=ao j;clear j;have z:(0:Int)<=(b:Int):=by omega
   have A:(b:Int)<(L:Int):=by omega
   by_cases h:y=k
   ·have f:Hid (l.contains y=true):=by
      rw[h];exact List.contains_iff_mem.2 (aG m.out)
    subst h;go_wp2_with fail
    go_ret
    exact⟨(b:Int),rfl,rfl,by rw[f.out];simp[Hid]⟩
   ·have f:Hid (y∉l.take (b+1)):=by
      rw[dx,m.out];intro d;rcases da.1 d with d|d
      ·exact p.out d
      ·exact h (by simpa using d)
    have v:¬k=y:=λe=>h e.symm;go_wp2_with fail;go_roundw
    case rel=>exact⟨b+1,by omega,by go_num,trivial,f.out⟩
    case measure=>simp[intOf];omega
  ·obtain rfl:b=L:=by omega
   have f:Hid (l.contains y=false):=by
    have d:=p.out;rw[bw (by rw[n.out];exact aj _)]at d;exact(show l.contains y=false by simpa using d)
   go_wp2_with fail
   go_ret
   exact⟨-1,rfl,rfl,by rw[f.out];simp[Hid]⟩
theorem sM.cells{v:Value}{l:List Int}(b:sM v l w):∃a c,v=.slice a l.length c/\∀(i:Nat)(k:Int),l[i]?=some k->∃g o,a=some ⟨g,o,none⟩/\w.cell? ⟨g,o+i,none⟩=some (ab k):=by
 obtain⟨a,c,d,b⟩:=b;refine⟨a,c,d,λi k e=>?_⟩;rcases b with rfl|⟨g,o,d,_,b⟩
 ·simp at e
 ·exact⟨g,o,d,b i k e⟩
theorem uk(v:Value)(y:Int)(t:Bool)(w:World)(a:Hid (ak 142 #[v,ab y] w λe w'=>∃r:Int,e=.returned (ab r)/\w'=w/\Hid (decide (0<=r)=t))):ak 106 #[v,ab y] w λe w'=>e=.returned (.bool t)/\w'=w:=by
 go_enter Tryz.func106,Tryz.ntmps106;go_wp2_with fail;refine a.out.mono ?_;rintro e c ⟨r,rfl,rfl,b⟩;go_wp2_with fail
 go_ret
 exact⟨bK (by rw[<-b.out]),rfl⟩
theorem vv{v:Value}{l:List Int}(b:sM v l w)(f:l.length<=1000000)(y:Int):ak 106 #[v,ab y] w λe w'=>e=.returned (.bool (l.contains y))/\w'=w:=by
 obtain⟨a,c,e,d⟩:=b.cells;rw[e];exact uk _ y _ w (Cu a c l l.length y w f rfl d)
theorem Ak(a b:Option Addr)(c d:Nat)(len:Nat)(w:World)(x:len<=1000000)(q:Hid (∀i,i<len->∃g o h j k,(a=some ⟨g,o,none⟩/\b=some ⟨h,j,none⟩)/\w.cell? ⟨g,o+i,none⟩=some (ab k)/\w.cell? ⟨h,j+i,none⟩=some (ab k))):ak 22 #[.slice a len c,.slice b len d] w λe w'=>e=.returned (.bool true)/\ai w w':=by
 go_enter Tryz.func22,Tryz.ntmps22;go_wp2_with fail;go_loopw [13] (λi wr=>∃f:Nat,f<=len/\i=ab f/\Hid (ai w wr)) (λi _=>len-(intOf i).toNat)
 case atStart=>exact⟨0,aF _,rfl,am _ _⟩
 case round=>
  obtain⟨f,v,rfl,HB⟩:=hrel;by_cases u:f<len
  ·obtain⟨g,o,h,j,k,⟨rfl,rfl⟩,l,m⟩:=q.out f u;have s:=fh w ⟨g,o+f,none⟩ l;have t:=fh w ⟨h,j+f,none⟩ m;have n:=ap HB.out;replace l:=(n _ _ s).trans l;replace m:=(n _ _ t).trans m;clear n;have y:(0:Int)<=(f:Int):=by omega
   have z:(f:Int)<(len:Int):=by omega
   have r:Hid (ai w wr.drew):=HB.out.drew;go_wp2_with fail;go_region_held3 (λp=>p.cell? ⟨g,o+f,none⟩=some (ab k)/\p.cell? ⟨h,j+f,none⟩=some (ab k)) (go_keep) (fail);go_wp2_with fail;go_roundw
   case rel=>exact⟨f+1,by omega,by go_num,r.out⟩
   case measure=>simp[intOf];omega
  ·obtain rfl:f=len:=by omega
   go_wp2_with fail
   go_ret
   exact⟨rfl,HB.out⟩
theorem Cs{v h:Value}{l:List Int}(q:sM v l w)(r:sM h l w)(u:l.length<=1000000):ak 22 #[v,h] w λe w'=>e=.returned (.bool true)/\ai w w':=by
 obtain⟨i,c,m,x⟩:=q.cells;obtain⟨b,j,n,y⟩:=r.cells;rw[m,n];refine Ak i b c j l.length w u λa d=>?_;have f:l[a]?=some (l[a]'d):=aE d;obtain⟨g,o,e,s⟩:=x a _ f;obtain⟨p,z,k,t⟩:=y a _ f;exact⟨g,o,p,z,_,⟨e,k⟩,s,t⟩
theorem B5(l:List Int)(L:Nat)(bp:BL)(mo:Option Nat)(x:Int)(w:World)(R:Option Addr->Nat->Nat->World->Prop)(K:L<=99)(C:Hid (l.length=L))(D:Hid (ak 140 #[.pointer (some ⟨bp.b,bp.o,none⟩),ab x] w λe w'=>∃a c,e=.returned (.slice a L c)/\Hid (R a c 0 w')))(f:Hid (∀a c j W,R a c j W->W.cell? ⟨bp.b,bp.o,none⟩=some (.map mo)/\∀(i:Nat)(k:Int),l[i]?=some k->∃g o,a=some ⟨g,o,none⟩/\W.cell? ⟨g,o+i,none⟩=some (ab k)))(HB:Hid (∀a c j W d,R a c j W->ai W d->R a c j d))(A:Hid (∀a c j k W,R a c j W->l[j]?=some k->∃d,(∀ty,(Builtin.delete_ #[66,164] ty #[.map mo,.agg #[ab (iy x k).1,ab (iy x k).2]]).run Tryz.prog W=.ok (.tuple #[]) d)/\R a c (j+1) d)):ak 105 #[.pointer (some ⟨bp.b,bp.o,none⟩),ab x] w λe w'=>∃a c,e=.returned (.slice a L c)/\Hid (R a c L w'):=by
 go_enter Tryz.func105,Tryz.ntmps105;go_wp2_with fail;refine D.out.mono ?_;rintro e T ⟨a,c,rfl,z⟩;go_wp2_with fail;go_loopw [13] (λi wr=>∃j:Nat,j<=L/\i=ab j/\Hid (R a c j wr)) (λi _=>L-(intOf i).toNat)
 case atStart=>exact⟨0,aF _,rfl,z.out⟩
 case round=>
  obtain⟨j,M,rfl,h⟩:=hrel;by_cases F:j<L
  ·obtain⟨k,m⟩:∃k,l[j]?=some k:=⟨l[j]'(by rw[C.out];exact F),aE _⟩;obtain⟨H,y⟩:=f.out a c j wr h.out;obtain⟨g,o,rfl,I⟩:=y j k m;have B:=ao m;clear m y;have O:(0:Int)<=(j:Int):=by omega
   have P:(j:Int)<(L:Int):=by omega
   have s:=ao (λW=>nW x k W);have q:=ao (λW (E:R (some ⟨g,o,none⟩) c j W)=>A.out _ _ _ k W E B.out);obtain⟨⟨Q,S⟩,v⟩:∃G,G=iy x k:=⟨_,rfl⟩;rw[<-v]at s q;clear v;have p:Hid (R (some ⟨g,o,none⟩) c j wr.drew):=HB.out _ _ _ _ _ h.out (am _ _).drew;have J:=(f.out _ c j _ p.out).1;go_wp2_with fail
   go_region_held3 (λW=>W.cell? ⟨bp.b,bp.o,none⟩=some (.map mo)) (first|(go_keep;done)|exact(f.out _ _ _ _ n.out).1|exact(f.out _ _ _ _ r.out).1) ((first
    | (go_at_call 141;refine(s.out _).mono ?_;rintro e U ⟨rfl,t⟩;have n:=ao (HB.out _ _ _ _ _ p.out t);obtain⟨V,N,u⟩:=q.out _ n.out;have r:=ao u;clear t u)))
   go_wp2_with fail;go_roundw
   case rel=>exact⟨j+1,by omega,by go_num,r.out⟩
   case measure=>simp[intOf];omega
  ·obtain rfl:j=L:=by omega
   go_wp2_with fail
   go_ret
   exact⟨a,c,rfl,h.out⟩
variable {base n:Nat} {bp:BL} {mo:Option Nat} {g:Int×Int->Bool} {w:World}
theorem ey.drop(c:ey base bp mo n g w){k:Int×Int}(h:I2 k)(f:mo≠none):∃w2,(∀ty,(Builtin.delete_ #[66,164] ty #[.map mo,pk k]).run Tryz.prog w=.ok (.tuple #[]) w2)/\ey base bp mo n (gY g k false) w2/\bk (λb=>mo=some b) w w2/\w2.heap.size=w.heap.size:=by
 have i:=λmb (a:mo=some mb)=>(show ey base bp (some mb) n g w from a▸c).ne;rcases c.2.2 with⟨a,_⟩|⟨mb,rfl,l⟩
 ·exact absurd a f
 ·obtain⟨w2,j,e,d,m⟩:=l.drop h 0;refine⟨w2,λty=>j,⟨c.1,c.2.1.kept (d.block bp.b (c.lt bp.b (ag rfl)).2 (i mb rfl)),ah ⟨mb,rfl,e⟩⟩,d.mono λb _ a=>by rw[a],m⟩
theorem ey.some(c:ey base bp mo n g w){k:Int×Int}(b:g k=true):mo≠none:=by
 rcases c.2.2 with⟨_,a⟩|⟨mb,a,_⟩
 ·rw[a]at b;cases b
 ·rw[a];simp
theorem rn(p:ey base bp mo n g w)(y:zh g){x:Int}(A:dk x):ak 105 #[.pointer (some ⟨bp.b,bp.o,none⟩),ab x] w λe w'=>∃v,e=.returned v/\Hid (ig w.heap.size v (pZ g x) w'/\ey base bp mo n (wo g [x]) w'/\bk (λb=>mo=some b) w w'):=by
 have G:∀b,mo=some b->b<w.heap.size:=λb e=>(p.lt b (ah e)).2;have D:∀(d:Option Addr)(c h:Nat)(k:Int)(a:World),(ig w.heap.size (.slice d (pZ g x).length c) (pZ g x) a/\ey base bp mo n (sP g x ((pZ g x).take h)) a/\bk (λb=>mo=some b) w a)->(pZ g x)[h]?=some k->∃m,(∀ty,(Builtin.delete_ #[66,164] ty #[.map mo,.agg #[ab (iy x k).1,ab (iy x k).2]]).run Tryz.prog a=.ok (.tuple #[]) m)/\(ig w.heap.size (.slice d (pZ g x).length c) (pZ g x) m/\ey base bp mo n (sP g x ((pZ g x).take (h+1))) m/\bk (λb=>mo=some b) w m):=by
  rintro d c h k a ⟨j,f,s⟩ l;have F:=iO.1 (aG l);have B:I2 (iy x k):=yr A (by unfold dk;omega);have E:sP g x ((pZ g x).take h) (iy x k)=true:=by
   refine zM.2 ⟨F.2,λP I e=>?_⟩;rcases Lq.1 e with⟨_,e⟩|⟨t,u⟩
   ·exact sx (om g x) l (e▸I)
   ·exact absurd (aG l) (by rw[u];exact AI y x)
  obtain⟨K,H,i,z,O⟩:=f.drop B (f.some E);refine⟨K,H,aY j z λb i e=>?_,?_,bk.trans s z λb _ e=>e⟩
  ·have:=(j.lt b i).1;have:=G b e;omega
  ·rw[dx,l];rw[show (some k).toList=[k]from rfl,E7];exact i
 refine(B5 (pZ g x) (pZ g x).length bp mo x w (λd c h a=>ig w.heap.size (.slice d (pZ g x).length c) (pZ g x) a/\ey base bp mo n (sP g x ((pZ g x).take h)) a/\bk (λb=>mo=some b) w a) (uI g x) rfl ?_ ?_ ?_ D).mono ?_
 ·refine(KA p A).mono ?_;rintro e w' ⟨v,rfl,q⟩;obtain⟨d,c,e,_⟩:=q.out.1.row;subst e;exact⟨d,c,rfl,q.out.1,p.later q.out.2,aD q.out.2 _⟩
 ·rintro d c h a ⟨j,f,_⟩;refine⟨f.cell.1,λJ k l=>?_⟩;obtain⟨L,M,e,C⟩:=j.row.cells;injection e with t u N;subst t;exact C J k l
 ·rintro d c h a m ⟨j,f,s⟩ i;exact⟨j.later i,f.later i,bk.trans s (aD i λ_=>False) λ_ _ p=>p.elim⟩
 ·rintro e w' ⟨d,c,rfl,r⟩;refine⟨_,rfl,r.out.1,?_,r.out.2.2⟩;have f:=r.out.2.1;rw[bw (aj _),KL y]at f;exact f
def fF(g:Int×Int->Bool)(x:Int)(i:Nat)(l:List Int)(j:Nat):List Int:=cY g x i++yg (cY g x i) (l.take j)
theorem pS{g:Int×Int->Bool}{x:Int}{i:Nat}{l:List Int}(b:l.Nodup){j:Nat}{y:Int}(a:l[j]?=some y):fF g x i l (j+1)=fF g x i l j++if (fF g x i l j).contains y then []else [y]:=by
 unfold fF;rw[dx,a];rw[show (some y).toList=[y]from rfl,FN _ _ _ (sx b a),lZ]
theorem xf{g:Int×Int->Bool}{x:Int}{i:Nat}{y:Int}(a:(cY g x i)[i]?=some y):fF g x i (pZ (wo g (x::(cY g x i).take i)) y) (pZ (wo g (x::(cY g x i).take i)) y).length=cY g x (i+1):=by
 rw[cY,a];unfold fF;rw[bw (aj _)]
theorem JP{g:Int×Int->Bool}(b:zh g){x:Int}{i:Nat}{y:Int}(c:(cY g x i)[i]?=some y)(j:Nat):(fF g x i (pZ (wo g (x::(cY g x i).take i)) y) j).length<=99:=by
 have a:=(iC b x (i+1)).le;rw[<-xf c]at a;refine ax ?_ a;unfold fF;rw[bf,bf];refine Nat.add_le_add_left ?_ _;rw[bw (aj _)];exact(List.Sublist.filter _ (List.take_sublist j _)).length_le
theorem LS{g:Int×Int->Bool}{x:Int}{i:Nat}{y:Int}(a:(cY g x i)[i]?=some y):wo (wo g (x::(cY g x i).take i)) [y]=wo g (x::(cY g x (i+1)).take (i+1)):=by
 rw[N3];have b:=(aM.1 a).1;rw[cY,a];simp only;rw[jj (by omega),dx,a];rfl
variable {base n:Nat} {bp:BL} {mo:Option Nat} {g:Int×Int->Bool} {w:World}
def Mo(base:Nat)(bp:BL)(mo:Option Nat)(n:Nat)(g:Int×Int->Bool)(x:Int)(j:Nat)(a:Option Addr)(L c:Nat)(w W:World):Prop:=
 (cY g x j).length=L/\ig w.heap.size (.slice a L c) (cY g x j) W/\ey base bp mo n (wo g (x::(cY g x j).take j)) W/\bk (λb=>mo=some b) w W
def Mt(base:Nat)(bp:BL)(mo:Option Nat)(n:Nat)(g:Int×Int->Bool)(x:Int)(j:Nat)(l:List Int)(d:Option Addr)(e:Nat)(q:Nat)(a:Option Addr)(L c:Nat)(w W:World):Prop:=
 (fF g x j l q).length=L/\ig w.heap.size (.slice a L c) (fF g x j l q) W/\ig w.heap.size (.slice d l.length e) l W/\(∀b,(Value.slice a L c).ownBlock=some b->(Value.slice d l.length e).ownBlock≠some b)/\ey base bp mo n (wo g (x::(cY g x (j+1)).take (j+1))) W/\bk (λb=>mo=some b) w W
theorem sD{v:Value}{a:Option Addr}{L c:Nat}{l:List Int}(b:sM v l w)(e:v=.slice a L c)(i:Nat)(k:Int)(h:l[i]?=some k):∃g o,a=some ⟨g,o,none⟩/\w.cell? ⟨g,o+i,none⟩=some (ab k):=by
 obtain⟨j,m,d,b⟩:=b.cells;rw[e]at d;injection d with f n p;subst f;exact b i k h
theorem Mt.more{x:Int}{j:Nat}{l:List Int}{v:Option Addr}{z q:Nat}{a:Option Addr}{L c:Nat}{W:World}(B:Mt base bp mo n g x j l v z q a L c w W)(I:l.Nodup)(M:∀b,Kx bp mo b->b<w.heap.size){y:Int}(N:l[q]?=some y)(J:(fF g x j l q).contains y=false){o:Obj}{f m:Nat}{h:World}(K:h.ownsRow w.heap.size 3 1 (.slice (some ⟨f,0,none⟩) (L+1) m) (L+1) (jn (fF g x j l q)++ [ab y]))(H:(W.alloc o).grownBy h (Value.slice a L c).ownBlock)(G:(Value.slice a L c).ownBlock=some f\/f=(W.alloc o).heap.size):Mt base bp mo n g x j l v z (q+1) (some ⟨f,0,none⟩) (L+1) m w h:=by
 obtain⟨p,C,r,s,D,E⟩:=B;have d:fF g x j l (q+1)=fF g x j l q++ [y]:=by
  rw[pS I N,J];rfl
 have F:ai W (W.alloc o):=(am _ _).alloc (aj _) _;have k:bk (λb=>(Value.slice a L c).ownBlock=some b) W h:=bk.trans (aD F _) (dR H) λb _ d=>d;have u:∀b,(Value.slice a L c).ownBlock=some b->w.heap.size<=b:=λb e=>(C.lt b e).1;refine⟨by rw[d,bf,p];rfl,?_,aY r k λb e d=>s b d e,?_,D.kee k λb e d=>?_,bk.trans E k λb e d=>?_⟩
 ·unfold ig;rw[d,kS,bf,p];exact K
 ·intro b e t;have A:f=b:=au e;subst A;rcases G with i|i
  ·exact s _ i t
  ·have:=(r.lt _ t).2;simp at i;omega
 ·have:=M b e;have:=u b d;omega
 ·have:=u b d;omega
theorem EQ(base:Nat)(bp:BL)(mo:Option Nat)(n:Nat)(g:Int×Int->Bool)(x:Int)(w:World)(u:Hid (zh g))(Z:Hid (∀b,Kx bp mo b->b<w.heap.size))(X:Hid (ak 105 #[.pointer (some ⟨bp.b,bp.o,none⟩),ab x] w λe w'=>∃a L c,e=.returned (.slice a L c)/\Hid (Mo base bp mo n g x 0 a L c w w'))):ak 74 #[.pointer (some ⟨bp.b,bp.o,none⟩),ab x,.bool false] w λe w'=>∃v,e=.returned v/\Hid (ig w.heap.size v (sF g x) w'/\ey base bp mo n (wo g (x::sF g x)) w'/\bk (λb=>mo=some b) w w'):=by
 obtain⟨B,al,an,ap,aq⟩:=bQ Ec;have F:Hid (Tryz.prog.info? 3=some B/\B.zero=some (ab 0)/\B.size=1/\B.bytes=8):=⟨al,an,ap,aq⟩;clear al an ap aq;go_enter Tryz.func74,Tryz.ntmps74;go_wp2_with fail;refine X.out.mono ?_;rintro e a9 ⟨a,L,c,rfl,M⟩;go_wp2_with fail;go_loopw [7,8] (λv q wr=>∃(d:Nat)(a:Option Addr)(L c:Nat),v=.slice a L c/\q=ab d/\d<=99/\L<=99/\Hid (Mo base bp mo n g x d a L c w wr)) (λ_ q _=>100-(intOf q).toNat)
 case atStart=>exact⟨0,a,L,c,rfl,rfl,by omega,by have m:=(iC u.out x 0).le;have p:=M.out.1;omega,M.out⟩
 case round=>
  clear M X;obtain⟨d,a,L,c,rfl,rfl,a2,I,h⟩:=hrel;by_cases aN:d<L
  ·obtain⟨r,J⟩:∃r,(cY g x d)[d]?=some r:=⟨(cY g x d)[d]'(by rw[h.out.1];exact aN),aE _⟩;obtain⟨ae,o,rfl,aD⟩:=sD h.out.2.1.row rfl d r J;have H:=ao J;have aA:Hid (dk r):=by
    have:=(iC u.out x d).rng r (aG J);unfold Hid dk;omega
   clear J;have a5:(0:Int)<=(d:Int):=by omega
   have a6:(d:Int)<(L:Int):=by omega
   have Y:=ao (rn h.out.2.2.1 (u.out.wo _) aA.out);go_wp2_with fail;refine Y.out.mono ?_;rintro e U ⟨aW,rfl,G⟩;obtain⟨l,z⟩:∃l,l=pZ (wo g (x::(cY g x d).take d)) r:=⟨_,rfl⟩;rw[<-z]at G;obtain⟨j,k⟩:∃j,j=l.length:=⟨_,rfl⟩;have a1:j<=99:=by
    have:=uI (wo g (x::(cY g x d).take d)) r;rw[k,z];exact this
   obtain⟨K,C,aT⟩:∃K C,aW=.slice K j C:=by
    obtain⟨aB,aC,e,_⟩:=G.out.1.row;exact⟨aB,aC,by rw[k];exact e⟩
   subst aT;have N:Hid l.Nodup:=by rw[z];exact om _ _
   have aa:Hid (∀f,(fF g x d l f).length<=99):=by rw[z];exact λf=>JP u.out H.out f
   have ar:Hid (fF g x d l j=cY g x (d+1)):=by rw[k,z];exact xf H.out
   have W:Hid (Mt base bp mo n g x d l K C 0 (some ⟨ae,o,none⟩) L c w U):=by
    have aU:=LS H.out (g:=g) (x:=x);have A:=G.out;have aS:∀b,mo=some b->b<w.heap.size:=λb e=>Z.out b (ah e);have aO:bk (λb=>mo=some b) w U:=bk.trans h.out.2.2.2 A.2.2 λ_ _ e=>e;have ad:fF g x d l 0=cY g x d:=by simp[fF,yg]
    have aR:ig w.heap.size (.slice (some ⟨ae,o,none⟩) L c) (cY g x d) U:=aY h.out.2.1 A.2.2 λb R e=>by
     have:=(h.out.2.1.lt b R).1;have:=aS b e;omega
    refine⟨by rw[ad];exact h.out.1,by rw[ad];exact aR,?_,?_,?_,aO⟩
    ·rw[<-k];exact qK A.1 h.out.2.2.2.size
    ·intro b R ai;rw[<-k]at ai;have:=(A.1.lt b ai).1;have:=(h.out.2.1.lt b R).2;omega
    ·rw[<-aU];exact A.2.1
   replace k:=ao k;clear G h Y aD z;go_wp2_with fail;go_loopw [7,28] (λv q wr=>∃(f:Nat)(a:Option Addr)(L c:Nat),v=.slice a L c/\q=ab f/\f<=j/\L<=99/\Hid (Mt base bp mo n g x d l K C f a L c w wr)) (λ_ q _=>j-(intOf q).toNat)
   case atStart=>exact⟨0,_,L,c,rfl,rfl,aF _,I,W.out⟩
   case round=>
    clear W;obtain⟨f,a,L,c,rfl,rfl,a4,I,i⟩:=hrel;by_cases aQ:f<j
    ·obtain⟨s,T⟩:∃s,l[f]?=some s:=⟨l[f]'(by rw[<-k.out];exact aQ),aE _⟩;obtain⟨aI,aV,rfl,aZ⟩:=sD i.out.2.2.1.row rfl f s T;have Q:=ao T;clear T;have a7:(0:Int)<=(f:Int):=by omega
     have a8:(f:Int)<(j:Int):=by omega
     have V:=ao (vv i.out.2.1.row (by rw[i.out.1];omega) s);obtain⟨t,S⟩:∃t,t=(fF g x d l f).contains s:=⟨_,rfl⟩;rw[<-S]at V;have P:=ao S;clear S;go_wp2_with fail;refine V.out.mono ?_;rintro e D ⟨rfl,rfl⟩;cases t
     ·have aX:=ao (aa.out (f+1));have av:Hid (L+1<=99):=by
       have m:=aa.out (f+1);have p:=i.out.1;rw[pS N.out Q.out,<-P.out,bf]at m;simp at m;unfold Hid;omega
      have ay:Hid (w.heap.size<=D.heap.size):=i.out.2.2.2.2.2.size;have ax:=ao i.out.2.1;have aw:=ao i.out.1
      go_wp2_with (first
       | (at_builtin;refine wpList_append_lies _ rfl _ _ 44 rfl w.heap.size 3 B _ 1 8 Tryz.underlying44 F.out.1 F.out.2.1 F.out.2.2.1 F.out.2.2.2 rfl (by decide) (.slice a L c) L (jn (fF g x d l f)) rfl ((show D.ownsRow w.heap.size 3 1 (.slice a L c) L (jn (fF g x d l f))from by have y:=ax.out;unfold ig at y;rw[aw.out]at y;exact y).alloc _) ⟨D.heap.size,0,none⟩ 1 1 [ab s] rfl rfl (World.news_of_block (cs:= #[ab s]) (t:=3) (fr:=(0,0)) (az D _)) (by simp[Value.oneCell']) (by decide) (by unfold maxLen;omega) (by omega) (by have:=ay.out;simp;omega) _ rfl ?_;intro a0 aH ba am aj ag aP;have O:=ao (i.out.more N.out Z.out Q.out P.out.symm am aj ag);clear am aj ag aP))
      go_roundw
      case rel=>exact⟨f+1,_,L+1,aH,rfl,by go_num,by omega,av.out,O.out⟩
      case measure=>simp[intOf];omega
     ·have O:Hid (Mt base bp mo n g x d l (some ⟨aI,aV,none⟩) C (f+1) a L c w D):=by
        have y:=i.out;unfold Mt at y ⊢;have e:fF g x d l (f+1)=fF g x d l f:=by
         rw[pS N.out Q.out,<-P.out];simp
        rw[e];exact y
      go_wp2_with fail;go_roundw
      case rel=>exact⟨f+1,_,L,c,rfl,by go_num,by omega,I,O.out⟩
      case measure=>simp[intOf];omega
    ·obtain rfl:f=j:=by omega
     have E:Hid (Mo base bp mo n g x (d+1) a L c w wr):=by
      obtain⟨m,p,_,_,aK,aL⟩:=i.out;rw[ar.out]at m p;exact⟨m,p,aK,aL⟩
     have au:Hid (d+1<=99):=by
      have:=(iC u.out x d).le;have:=(aM.1 H.out).1;unfold Hid;omega
     go_wp2_with fail;go_roundw
     case rel=>exact⟨d+1,a,L,c,rfl,by go_num,au.out,I,E.out⟩
     case measure=>simp[intOf];omega
  ·have E:Hid (cY g x d=sF g x):=GC u.out (by rw[h.out.1];omega);have a3:¬(d:Int)<(L:Int):=by omega
   go_wp2_with fail
   go_ret
   obtain⟨m,p,af,aJ⟩:=h.out;rw[bw (by omega),E.out]at af;rw[E.out]at p;exact⟨_,rfl,p,af,aJ⟩
theorem zv(bp:BL)(x:Int)(w:World)(R:World->Prop)(c:Hid (ak 105 #[.pointer (some ⟨bp.b,bp.o,none⟩),ab x] w λe w'=>∃v,e=.returned v/\Hid (R w'))):ak 74 #[.pointer (some ⟨bp.b,bp.o,none⟩),ab x,.bool true] w λe w'=>e=.returned (.slice none 0 0)/\R w':=by
 go_enter Tryz.func74,Tryz.ntmps74;go_wp2_with fail;refine c.out.mono ?_;rintro e d ⟨v,rfl,a⟩;go_wp2_with fail
 go_ret
 exact⟨rfl,a.out⟩
def sQ(g:Int×Int->Bool)(x:Int)(a:Bool):List Int:=if a then []else sF g x
theorem Hi(f:ey base bp mo n g w)(h:zh g){x:Int}(i:dk x)(d:Bool):ak 74 #[.pointer (some ⟨bp.b,bp.o,none⟩),ab x,.bool d] w λe w'=>∃v,e=.returned v/\Hid (ig w.heap.size v (sQ g x d) w'/\ey base bp mo n (wo g (x::sQ g x d)) w'/\bk (λb=>mo=some b) w w'):=by
 cases d
 ·rw[show sQ g x false=sF g x from if_neg (by decide)];refine EQ base bp mo n g x w h (λb m=>(f.lt b m).2) ?_;refine(rn f h i).mono ?_;rintro e w' ⟨v,rfl,a⟩;obtain⟨j,c,e,_⟩:=a.out.1.row;subst e;exact⟨j,_,c,rfl,rfl,a.out.1,a.out.2.1,a.out.2.2⟩
 ·refine(zv bp x w (λw'=>ey base bp mo n (wo g [x]) w'/\bk (λb=>mo=some b) w w') ?_).mono ?_
  ·refine(rn f h i).mono ?_;rintro e w' ⟨v,rfl,a⟩;exact⟨v,rfl,a.out.2⟩
  ·rw[show sQ g x true=[]from if_pos rfl];rintro e w' ⟨rfl,k,l⟩;exact⟨_,rfl,ig.nil _ _,k,l⟩
def DZ:ByteArray:=⟨#[115,112,97,119,110]⟩
def mY:ByteArray:=⟨#[101,110,100]⟩
def mE:ByteArray:=⟨#[116,97,107,101]⟩
def Ir:ByteArray:=⟨#[115,101,110,100]⟩
def ny:ByteArray:=⟨#[108,111,115,116]⟩
def sJ:Tc:=((0,0,⟨#[]⟩),(none,0),[])
structure Sy where
 last:Int
 ps:List (Int×ByteArray×Tc×List Tc)
 ways:Int×Int->List Tc
 bonds:Int×Int->Bool
 evs:List (ByteArray×Int×Int×Tc)
def Sy.get(s:Sy)(k:Int):Option (ByteArray×Tc×List Tc):=(s.ps.find? λp=>p.1==k).map (·.2)
def Sy.put(s:Sy)(k:Int)(v:ByteArray×Tc×List Tc):Sy:={s with ps:=s.ps.map λp=>if p.1=k then (k,v)else p}
def Sy.tell(s:Sy)(wt:ByteArray)(a b:Int)(t:Tc):Sy:={s with evs:=s.evs++ [(wt,a,b,t)]}
def Sy.add(s:Sy)(a:Int)(nm:ByteArray)(cs:Tc):Sy:=Sy.tell {s with last:=s.last+1,ps:=s.ps++ [(s.last+1,nm,cs,[])]} DZ a (s.last+1) cs
def Sy.drop(s:Sy)(x how:Int):Sy:=Sy.tell {s with ps:=s.ps.eraseP λp=>p.1==x} mY x how sJ
def Sy.fin(s:Sy)(x how:Int):Sy:=(sQ s.bonds x (how==1)).foldl (λs y=>s.drop y 4) {s.drop x how with bonds:=wo s.bonds (x::sQ s.bonds x (how==1))}
def Sy.deliver(s:Sy)(room a b:Int)(t:Tc):Sy:=match s.get b with
 | none=>s
 | some (nm,cs,cms)=>if mD 13 t room cs cms=2 then s.tell ny a b t else if mD 13 t room cs cms=6 then s.fin b 3 else if mD 13 t room cs cms=0 then s.put b (nm,cs,cms++ [t])else s
def Sy.send(s:Sy)(a b:Int)(t:Tc):Sy:=if nb 12 a b t (s.ways (a,b)).length=0 then Sy.tell {s with ways:=gY s.ways (a,b) (s.ways (a,b)++ [t])} Ir a b t else s.tell ny a b t
def Sy.link(s:Sy)(a b:Int):Sy:=if (s.get b).isSome then {s with bonds:=if uy a b=0 then gY s.bonds (iy a b) true else s.bonds}else s
def Sy.may(s:Sy)(n:Nat):Bool:=decide ((s.ps.length:Int)+n<=12) && decide (s.last+n<=90)
section
variable (n:Nat) (prog:List (Bh (n+1))) (room:Int)
def kC(nm:ByteArray):Bool:=(fU (n+1) nm prog).isSome
def Sy.made(s:Sy)(l:List (Int×ByteArray×Tc)):Bool:=s.may l.length && l.all λx=>kC n prog x.2.1 && fQ 13 x.2.2 room x.2.1==0
def Sy.follow(s:Sy)(a:Int)(c:Tk):Sy:=
 let s:=c.spawns.foldl (λs b=>s.add a b.2.1 b.2.2) s
 let s:=c.sends.foldl (λs b=>s.send a b.1 b.2) s
 let s:=c.links.foldl (λs b=>s.link a b) s
 if c.fate=1 then s.fin a 1 else s
def Sy.run(s:Sy)(a:Int):Sy×Int:=match s.get a with
 | none=>(s,4)
 | some (nm,cs,cms)=>if qQ n room prog nm a (s.last+1) cs cms=0 then match mP room prog nm a (s.last+1) cs cms with
     | none=>(s,0)
     | some b=>
      let s:=(s.put a (nm,b.state,b.mail)).tell mE a 0 b.message
      (if b.fate=2\/b.fate=3 then s.fin a b.fate else if s.made n prog room b.spawns=false then s.fin a 2 else s.follow a b,0)
  else (s,qQ n room prog nm a (s.last+1) cs cms)
def Sy.arrive(s:Sy)(a b:Int):Sy×Int:=match s.ways (a,b)with
 | []=>(s,4)
 | t::l=>
  let s:={s with ways:=gY s.ways (a,b) l}
  (if (s.get b).isSome then s.deliver room a b t else s.tell ny a b t,0)
def Sy.inject(s:Sy)(a:Int)(k:Nat)(x:Tm k):Sy×Int:=if (s.get a).isSome=false then (s,4)else if bq k x≠0 then (s,bq k x)else if aH k x=false then (s,5)else (s.deliver room 0 a (cn k x),0)
def Sy.do(s:Sy)(c a b:Int)(k:Nat)(x:Tm k):Sy×Int:=if c=1 then s.run n prog room a else if c=2 then s.arrive room a b else if c=3 then s.inject room a k x else (s,1)
def Sy.start(s:Sy)(nm:ByteArray)(k:Nat)(x:Tm k):Sy×Int:=if s.may 1=false then (s,2)else if kC n prog nm=false then (s,4)else if fQ k x room nm≠0 then (s,fQ k x room nm)else (s.add 0 nm (cn k x),0)
end
theorem fO{P:Sy->Prop}{a:Type}(f:Sy->a->Sy):(l:List a)->(∀s,∀x∈l,P s->P (f s x))->{s:Sy}->P s->P (l.foldl f s)
 | [],_,_,h=>h
 | x::l,hf,s,h=>fO f l (λs y b=>hf s y (bH _ b)) (hf s x (by simp) h)
theorem MR{s:Sy}{k:Int}{v:ByteArray×Tc×List Tc}(a:s.get k=some v):∃q∈s.ps,q.2=v:=by
 unfold Sy.get at a;obtain⟨q,b,rfl⟩:=cd.1 a;exact⟨q,rX b,rfl⟩
def nr(s:Sy):Prop:=∀q∈s.ps,q.2.1.size<=8
theorem nr.get{s:Sy}(b:nr s){k:Int}{nm:ByteArray}{r:Tc×List Tc}(c:s.get k=some (nm,r)):nm.size<=8:=by
 obtain⟨e,d,a⟩:=MR c;have:=b e d;rw[a]at this;exact this
theorem nr.add{s:Sy}(c:nr s)(a:Int){nm:ByteArray}(d:nm.size<=8)(cs:Tc):nr (s.add a nm cs):=λq e=>by
 rcases da.1 e with b|b
 ·exact c q b
 ·rw[dD.1 b];exact d
theorem nr.drop{s:Sy}(a:nr s)(x how:Int):nr (s.drop x how):=λq b=>a q (List.mem_of_mem_eraseP b)
theorem nr.fin{s:Sy}(a:nr s)(x how:Int):nr (s.fin x how):=fO (λ(s:Sy)(y:Int)=>s.drop y 4) _ (λ_ y _ k=>k.drop y 4) (a.drop x how:)
theorem nr.put{s:Sy}(a:nr s)(k:Int){v:ByteArray×Tc×List Tc}(d:v.1.size<=8):nr (s.put k v):=λq b=>by
 obtain⟨r,c,rfl⟩:=bU.1 b;split
 ·exact d
 ·exact a r c
theorem nr.deliver{s:Sy}(c:nr s)(room a b:Int)(t:Tc):nr (s.deliver room a b t):=by
 unfold Sy.deliver;split
 ·exact c
 ·split
  ·exact c
  ·split
   ·exact c.fin _ _
   ·split
    ·exact c.put _ (c.get ‹_›)
    ·exact c
theorem wm{k:Nat}{x:Tm k}{room:Int}{nm:ByteArray}(a:fQ k x room nm=0):nm.size<=8:=by
 unfold fQ at a;split at a
 ·cases a
 ·rename_i b;simp only[dE,pY,Bool.not_eq_false,aB,bX]at b;omega
theorem nr.follow{s:Sy}(d:nr s)(a:Int)(b:Tk)(e:∀x∈b.spawns,x.2.1.size<=8):nr (s.follow a b):=by
 have c:=fO (P:=nr) (λ(s:Sy)(x:Int)=>s.link a x) b.links (λs x _ k=>by unfold Sy.link;split<;>exact k) (fO (P:=nr) (λ(s:Sy)(x:Int×Tc)=>s.send a x.1 x.2) b.sends (λs x _ k=>by unfold Sy.send;split<;>exact k) (fO (P:=nr) (λ(s:Sy)(x:Int×ByteArray×Tc)=>s.add a x.2.1 x.2.2) b.spawns (λ_ x f k=>k.add a (e x f) x.2.2) d));unfold Sy.follow;simp only;split
 ·exact c.fin a 1
 ·exact c
theorem nr.do{n:Nat}{prog:List (Bh (n+1))}{room:Int}{s:Sy}(c:nr s)(j a b:Int)(k:Nat)(x:Tm k):nr (s.do n prog room j a b k x).1:=by
 unfold Sy.do;split
 ·unfold Sy.run;split
  ·exact c
  ·rename_i g o m h;split
   ·split
    ·exact c
    ·rename_i d _;have e:nr ((s.put a (g,d.state,d.mail)).tell mE a 0 d.message):=c.put a (v:=(g,d.state,d.mail)) (c.get h);simp only;split
     ·exact e.fin _ _
     ·split
      ·exact e.fin _ _
      ·rename_i f;simp only[Sy.made,aB,Bool.not_eq_false,b9,bV]at f;exact e.follow a d λx i=>wm (f.2 x i).2
   ·exact c
 ·split
  ·unfold Sy.arrive;split
   ·exact c
   ·rename_i l _;simp only;split
    ·exact nr.deliver (s:={s with ways:=gY s.ways (a,b) l}) c _ _ _ _
    ·exact c
  ·split
   ·unfold Sy.inject;split
    ·exact c
    ·split
     ·exact c
     ·split
      ·exact c
      ·exact c.deliver _ _ _ _
   ·exact c
theorem nr.start{n:Nat}{prog:List (Bh (n+1))}{room:Int}{s:Sy}(a:nr s)(nm:ByteArray)(k:Nat)(x:Tm k):nr (s.start n prog room nm k x).1:=by
 unfold Sy.start;split
 ·exact a
 ·split
  ·exact a
  ·split
   ·exact a
   ·exact a.add 0 (wm (Decidable.not_not.1 ‹_›)) _
end Go.Proofs.YtckamaoibonjcaaGreat
