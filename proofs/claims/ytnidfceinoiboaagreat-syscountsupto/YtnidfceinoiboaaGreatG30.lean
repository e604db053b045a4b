/- What is proved here: plain facts and contracts that the claimed theorem stands on. No condition but those that each names. -/
import Derived.Test.YtnidfceinoiboaaGreatG28
namespace Go.Proofs.YtnidfceinoiboaaGreat
open Go.RowKit Go.Maps
set_option maxRecDepth 100000
set_option maxHeartbeats 2000000
def gn(x y:Int):Int×Int:=(min x y,max x y)
def oS:List Int:=(List.range 99).map λi:Nat=>(i:Int)+1
theorem yX{y:Int}:y∈oS ↔ 1<=y/\y<=99:=by
 simp only[oS,cC,List.mem_range];constructor
 ·rintro ⟨c,b,rfl⟩;omega
 ·intro a;exact⟨(y-1).toNat,by omega,by omega⟩
theorem mW:oS.length=99:=by simp[oS]
theorem Bq:oS.Nodup:=by
 unfold oS;refine List.Pairwise.map _ ?_ List.nodup_range;intro c b a d;exact a (by omega)
theorem Gm(i:Nat)(a:i<99):oS[i]?=some ((i:Int)+1):=by simp[oS,a]
def pj(g:Int×Int->Bool)(x:Int):List Int:=oS.filter λy=>g (gn x y)
def uq(g:Int×Int->Bool):Prop:=∀k,g k=true->1<=k.1/\k.1<k.2/\k.2<=99
theorem gC{g:Int×Int->Bool}{x y:Int}:y∈pj g x ↔ (1<=y/\y<=99)/\g (gn x y)=true:=by
 rw[pj,List.mem_filter,yX]
theorem nH(g:Int×Int->Bool)(x:Int):(pj g x).Nodup:=Bq.sublist List.filter_sublist
theorem tG(g:Int×Int->Bool)(x:Int):(pj g x).length<=99:=by
 have:=List.length_filter_le (λa=>g (gn x a)) oS;rw[mW]at this;exact this
theorem Gn(x y:Int):gn x y=gn y x:=by simp[gn,Int.min_comm,Int.max_comm]
theorem fD(x y:Int):gn x y=(x,y)/\x<=y\/gn x y=(y,x)/\y<=x:=by
 rcases Int.le_total x y with a|a
 ·exact ae ⟨by simp[gn,Int.min_eq_left a,Int.max_eq_right a],a⟩
 ·exact af ⟨by simp[gn,Int.min_eq_right a,Int.max_eq_left a],a⟩
theorem DQ{g:Int×Int->Bool}(c:uq g){x y:Int}(b:g (gn x y)=true):(1<=x/\x<=99)/\(1<=y/\y<=99)/\x≠y:=by
 have:=c _ b;rcases fD x y with⟨a,_⟩|⟨a,_⟩<;>(rw[a]at this;simp at this;omega)
theorem zi{g:Int×Int->Bool}(b:uq g)(x:Int):x∉pj g x:=λa=>(DQ b (gC.1 a).2).2.2 rfl
def wo(g:Int×Int->Bool)(l:List Int):Int×Int->Bool:=λk=>g k && !l.contains k.1 && !l.contains k.2
theorem qW{g:Int×Int->Bool}{l:List Int}{k:Int×Int}:wo g l k=true ↔ g k=true/\k.1∉l/\k.2∉l:=by
 simp[wo,and_assoc]
theorem Hl{g:Int×Int->Bool}{l:List Int}{x y:Int}:wo g l (gn x y)=true ↔ g (gn x y)=true/\x∉l/\y∉l:=by
 rw[qW];rcases fD x y with⟨d,_⟩|⟨d,_⟩
 ·rw[d]
 ·rw[d];constructor
  ·rintro ⟨a,b,c⟩;exact⟨a,c,b⟩
  ·rintro ⟨a,b,c⟩;exact⟨a,c,b⟩
theorem uq.wo{g:Int×Int->Bool}(a:uq g)(l:List Int):uq (wo g l):=λk b=>a k (qW.1 b).1
theorem LH(g:Int×Int->Bool)(l r:List Int):wo (wo g l) r=wo g (l++r):=by
 funext k;rw[Bool.eq_iff_iff,qW,qW,qW];simp only[di,not_or];constructor
 ·rintro ⟨⟨a,b,c⟩,d,e⟩;exact⟨a,⟨b,d⟩,c,e⟩
 ·rintro ⟨a,⟨b,d⟩,c,e⟩;exact⟨⟨a,b,c⟩,d,e⟩
def rL(g:Int×Int->Bool)(x:Int)(l:List Int):Int×Int->Bool:=l.foldl (λg y=>fT g (gn x y) false) g
theorem yq{g:Int×Int->Bool}{x:Int}{l:List Int}{k:Int×Int}:rL g x l k=true ↔ g k=true/\∀y∈l,k≠gn x y:=by
 induction l generalizing g with
 | nil=>simp[rL]
 | cons y l ih=>
  have b:rL g x (y::l)=rL (fT g (gn x y) false) x l:=rfl;rw[b,ih];unfold fT;by_cases a:k=gn x y
  ·simp[a]
  ·simp[a]
theorem Di(g:Int×Int->Bool)(x:Int)(l:List Int)(y:Int):rL g x (l++ [y])=fT (rL g x l) (gn x y) false:=by simp[rL]
theorem IB{g:Int×Int->Bool}(i:uq g)(x:Int):rL g x (pj g x)=wo g [x]:=by
 funext k;rw[Bool.eq_iff_iff,yq,qW];refine and_congr_right λd=>?_;have l:=i k d;simp only[dj];constructor
 ·intro e;refine⟨λb=>?_,λb=>?_⟩
  ·have c:k=gn x k.2:=by
     rcases fD x k.2 with⟨a,_⟩|⟨_,a⟩
     ·rw[a,<-b]
     ·omega
   exact e k.2 (gC.2 ⟨by omega,c▸d⟩) c
  ·have c:k=gn x k.1:=by
     rcases fD x k.1 with⟨_,a⟩|⟨a,_⟩
     ·omega
     ·rw[a,<-b]
   exact e k.1 (gC.2 ⟨by omega,c▸d⟩) c
 ·rintro ⟨f,h⟩ j _ b;rcases fD x j with⟨a,_⟩|⟨a,_⟩
  ·exact f (by rw[b,a])
  ·exact h (by rw[b,a])
/-! ### who is told -/
def wM(t l:List Int):List Int:=l.filter λy=> !t.contains y
def cW(g:Int×Int->Bool)(x:Int):Nat->List Int
 | 0=>pj g x
 | i+1=>match (cW g x i)[i]? with
  | some y=>cW g x i++wM (cW g x i) (pj (wo g (x::(cW g x i).take i)) y)
  | none=>cW g x i
def p9(g:Int×Int->Bool)(x:Int):List Int:=cW g x 99
theorem pL{t l:List Int}{y:Int}:y∈wM t l ↔ y∈l/\y∉t:=by simp[wM]
structure Told (g:Int×Int->Bool) (x:Int) (l:List Int):Prop where
 nodup:l.Nodup
 self:x∉l
 rng:∀y∈l,1<=y/\y<=99
 from':∀i y,l[i]?=some y->∃k∈x::l.take i,y∈pj g k
theorem wQ{t l:List Int}(c:t.Nodup)(d:l.Nodup)(e:∀y∈l,y∉t):(t++l).Nodup:=by
 rw[eH];exact⟨c,d,λh f b g a=>e b g (a▸f)⟩
theorem rC{l:List Int}{i:Nat}{y:Int}(c:l.Nodup)(g:l[i]?=some y):y∉l.take i:=by
 intro f;obtain⟨h,d,a⟩:=List.getElem_of_mem f;rw[dn]at d;rw[List.getElem_take]at a;obtain⟨e,b⟩:=aK.1 g;exact(List.pairwise_iff_getElem.1 c) h i (by omega) e (by omega) (a.trans b.symm)
theorem ie{g:Int×Int->Bool}(d:uq g)(x:Int):∀i,Told g x (cW g x i)
 | 0=>⟨nH g x,zi d x,λy c=>(gC.1 c).1,λi y c=>⟨x,by simp,ay c⟩⟩
 | i+1=>by
  have ih:=ie d x i;unfold cW;split
  ·rename_i y c;refine⟨wQ ih.nodup ((nH _ _).sublist List.filter_sublist) λz b=>(pL.1 b).2,?_,?_,?_⟩
   ·intro a;rcases di.1 a with a|a
    ·exact ih.self a
    ·have:=(Hl.1 (gC.1 (pL.1 a).1).2).2.2;simp at this
   ·intro z b;rcases di.1 b with a|a
    ·exact ih.rng z a
    ·exact(gC.1 (pL.1 a).1).1
   ·intro j z b;rw[List.getElem?_append]at b;split at b
    ·rename_i f;obtain⟨k,h,l⟩:=ih.from' j z b;refine⟨k,?_,l⟩;rw[iX (by omega)];exact h
    ·rename_i f;have e:=pL.1 (ay b);refine⟨y,?_,gC.2 ⟨(gC.1 e.1).1,(Hl.1 (gC.1 e.1).2).1⟩⟩;refine bR _ ?_;rw[List.take_append];refine lL _ ?_;rw[bk (by omega)];exact ay c
  ·exact ih
theorem Gf{l:List Int}(a:l.Nodup):∀{r:List Int},(∀y∈l,y∈r)->l.length<=r.length:=by
 induction l with
 | nil=>simp
 | cons y l ih=>
  intro r b;rw[jR]at a;have c:=b y (by simp);have:=ih a.2 (r:=r.erase y) λe d=>(List.mem_erase_of_ne (λf:e=y=>a.1 (f▸d))).2 (b e (by simp[d]));rw[List.length_erase_of_mem c]at this;have:=List.length_pos_of_mem c;simp;omega
theorem Told.le{g:Int×Int->Bool}{x:Int}{l:List Int}(a:Told g x l):l.length<=99:=by
 have:=Gf a.nodup (r:=oS) λc b=>yX.2 (a.rng c b);rwa [mW]at this
theorem pe{g:Int×Int->Bool}{x:Int}{i:Nat}(a:(cW g x i).length<=i):∀j,cW g x (i+j)=cW g x i
 | 0=>rfl
 | j+1=>by
  have ih:=pe a j;have:cW g x (i+j+1)=cW g x (i+j):=by
   rw[cW];rw[eP (by rw[ih];omega)]
  rw[<-Nat.add_assoc,this,ih]
theorem EE{g:Int×Int->Bool}(e:uq g){x:Int}{i:Nat}(d:(cW g x i).length<=i):cW g x i=p9 g x:=by
 unfold p9;rcases Nat.le_total i 99 with a|a
 ·obtain⟨b,c⟩:=Nat.le.dest a;rw[<-c,pe d b]
 ·obtain⟨b,rfl⟩:=Nat.le.dest a;exact pe ((ie e x 99).le) b
theorem mm{g:Int×Int->Bool}(a:uq g)(x:Int):Told g x (p9 g x):=ie a x 99
theorem CL{x y u v:Int}:gn u v=gn x y ↔ (u=x/\v=y)\/(u=y/\v=x):=by
 rcases fD x y with⟨a,c⟩|⟨a,c⟩<;>rcases fD u v with⟨b,d⟩|⟨b,d⟩<;>(rw[a,b];simp only[gN];omega)
theorem uq.link{g:Int×Int->Bool}(d:uq g){x y:Int}(f:1<=x/\x<=99)(h:1<=y/\y<=99)(e:x≠y):uq (fT g (gn x y) true):=by
 intro k a;unfold fT at a;split at a
 ·rename_i c;rcases fD x y with⟨b,_⟩|⟨b,_⟩<;>(rw[c,b];simp;omega)
 ·exact d k a
theorem Ea(i:Nat)(a:i<99):oS.take (i+1)=oS.take i++ [(i:Int)+1]:=by
 rw[dw,Gm i a];rfl
def pP(g:Int×Int->Bool)(x:Int)(i:Nat):List Int:=(oS.take i).filter λy=>g (gn x y)
theorem DR(g:Int×Int->Bool)(x:Int)(i:Nat)(a:i<99):pP g x (i+1)=pP g x i++if g (gn x ((i:Int)+1))then [(i:Int)+1]else []:=by
 rw[pP,Ea i a,List.filter_append,List.filter_cons,List.filter_nil];rfl
theorem Gh(g:Int×Int->Bool)(x:Int):pP g x 99=pj g x:=by
 rw[pP,bk (by rw[mW];exact ag _)];rfl
theorem zj(g:Int×Int->Bool)(x:Int)(i:Nat):(pP g x i).length<=i:=by
 have:=List.length_filter_le (λa=>g (gn x a)) (oS.take i);rw[dn]at this;unfold pP;omega
theorem DO(t l:List Int)(y:Int)(b:y∉l):wM t (l++ [y])=wM t l++if (t++wM t l).contains y then []else [y]:=by
 unfold wM;rw[List.filter_append,List.filter_cons,List.filter_nil];have a:(t++l.filter λy=> !t.contains y).contains y=t.contains y:=by
  rw[Bool.eq_iff_iff];simp[b]
 rw[a];cases t.contains y<;>rfl
structure SM (base mb n:Nat) (g:Int×Int->Bool) (w:World):Prop where
 lo:base<=mb
 map:∃D:DataW Value,w.ownsMap Tryz.prog 155 unitElem mb n D/\∀k,I2 k->has D (kl k)=g k
variable {base mb n:Nat} {g:Int×Int->Bool} {w:World}
theorem SM.lt(a:SM base mb n g w):base<=mb/\mb<w.heap.size:=by
 obtain⟨c,b,_⟩:=a.map;exact⟨a.lo,b.lt⟩
theorem SM.kee{S:Nat->Prop}{w':World}(a:SM base mb n g w)(k:bf S w w')(f:¬S mb):SM base mb n g w':=by
 obtain⟨c,b,e⟩:=a.map;refine⟨a.lo,c,?_,e⟩;have i:=b.lt;obtain⟨es,d,h,j⟩:=b;exact⟨es,d,(k.block mb i f).trans h,j⟩
theorem SM.later{w':World}(a:SM base mb n g w)(k:Below w.heap.size w w'):SM base mb n g w':=a.kee (aC k λ_=>False) id
theorem SM.rebase{a:Nat}(b:SM base mb n g w)(c:a<=base):SM a mb n g w:=⟨au c b.lo,b.map⟩
theorem SM.mono(b:SM base mb n g w){m:Nat}(f:n<=m):SM base mb m g w:=by
 obtain⟨c,a,d,e⟩:=b;exact⟨c,a,d.mono f,e⟩
theorem SM.new(w:World):SM w.heap.size w.heap.size 0 (λ_=>false) (w.alloc (.map #[] 0)):=
 ⟨ag _,.map [],oc w _ _ _,λk _=>by simp[has]⟩
theorem Ao(w:World):(zeroValue 212).run Tryz.prog w=.ok (.agg #[]) w:=by kernel_rfl
theorem SM.look(b:SM base mb n g w){k:Int×Int}(a:I2 k):(Instr.lookup 69 (.map (some mb)) (pk k) true).run Tryz.prog w=.ok (.tuple #[.agg #[],.bool (g k)]) w:=by
 obtain⟨h,c,d⟩:=b.map;obtain⟨i,ps,e,f⟩:=c.look_ok eM Tryz.underlying69 (Ao w) unitElem_mk (fl a);obtain⟨rfl,_⟩:=unitElem_inv f;rw[e,d k a]
theorem BG(w:World){k:Int×Int}(b:I2 k):(Instr.lookup 69 (.map none) (pk k) true).run Tryz.prog w=.ok (.tuple #[.agg #[],.bool false]) w:=by
 have a:=look_nil (P:=Tryz.prog) (w:=w) true eM Tryz.underlying69 (Ao w) (fl b);simpa using a
theorem SM.put(d:SM base mb n g w){k:Int×Int}(c:I2 k)(s:n<1000000):∃w2,(Instr.mapUpdate 69 (.map (some mb)) (pk k) (.agg #[])).run Tryz.prog w=.ok () w2/\SM base mb (n+1) (fT g k true) w2/\bf (λb=>b=mb) w w2/\w2.heap.size=w.heap.size:=by
 obtain⟨r,e,j⟩:=d.map;obtain⟨w2,o,m,q⟩:=e.store eM Tryz.underlying69 (by unfold maxLen;omega) (fl c) unitElem_mk;obtain⟨l,p⟩:=ig q;refine⟨w2,o,⟨d.lo,_,m,λh f=>?_⟩,l,p⟩;by_cases a:h=k
 ·rw[a,cr,has_put_same e.isMap (eM.key (fl c))]
 ·rw[bC _ _ a,has_put_other λi=>a (oM f c i)];exact j h f
theorem SM.drop(c:SM base mb n g w){k:Int×Int}(e:I2 k)(ty:TypeId):∃w2,(Builtin.delete_ #[69,155] ty #[.map (some mb),pk k]).run Tryz.prog w=.ok (.tuple #[]) w2/\SM base mb n (fT g k false) w2/\bf (λb=>b=mb) w w2/\w2.heap.size=w.heap.size:=by
 obtain⟨r,i,j⟩:=c.map;obtain⟨w2,o,m,q⟩:=i.drop eM Tryz.underlying69 (fl e) ty;obtain⟨l,p⟩:=ig q;refine⟨w2,o,⟨c.lo,_,m,λf d=>?_⟩,l,p⟩;by_cases a:f=k
 ·rw[a,cr,has_del_same]
 ·rw[bC _ _ a,has_del_other λh=>a (oM d e h)];exact j f d
/-! ### rows of numbers -/
def jf(l:List Int):List Value:=l.map (Value.int .i64)
theorem kJ(l:List Int)(k:Int):jf (l++ [k])=jf l++ [.int .i64 k]:=by simp[jf]
def gS(base:Nat)(v:Value)(l:List Int)(w:World):Prop:=w.ownsRow base 3 1 v l.length (jf l)
def vQ(v:Value)(l:List Int)(w:World):Prop:=∃a c,v=.slice a l.length c/\(l=[]\/∃g o,a=some ⟨g,o,none⟩/\g<w.heap.size/\∀(i:Nat)(k:Int),l[i]?=some k->w.cell? ⟨g,o+i,none⟩=some (.int .i64 k))
theorem gS.row{v:Value}{l:List Int}(c:gS base v l w):vQ v l w:=by
 have d:=c;rcases c.2 with⟨rfl,b⟩|⟨g,cap,i,rfl,_,e,_⟩
 ·exact⟨none,0,by rw[b],ae (bK b)⟩
 ·refine⟨some ⟨g,0,none⟩,cap,rfl,af ⟨g,0,rfl,(aE.1 e).1,λh k f=>?_⟩⟩;have a:=d.cells (g:=g) rfl h (.int .i64 k) (by simp[jf,f]);rw[eE,cU]at a;rw[cU];exact a
theorem gS.nil(base:Nat)(w:World):gS base (.slice none 0 0) [] w:=⟨rfl,ae ⟨rfl,rfl⟩⟩
theorem gS.later{v:Value}{l:List Int}{w':World}(a:gS base v l w)(k:Below w.heap.size w w'):gS base v l w':=aT a (aC k λ_=>False) λ_ _ a=>a
theorem vQ.later{v:Value}{l:List Int}{w':World}(a:vQ v l w)(k:Below w.heap.size w w'):vQ v l w':=by
 obtain⟨f,c,b,a⟩:=a;refine⟨f,c,b,?_⟩;rcases a with a|⟨g,o,b,d,a⟩
 ·exact ae a
 ·exact af ⟨g,o,b,aL d k.size,λe i h=>(k.cell (p:=⟨g,o+e,none⟩) d).trans (a e i h)⟩
def l9(a:Int):Bool:=decide (1<=a) && decide (a<=99)
theorem lh(a:Int)(w:World):Calls Tryz.prog 127 #[.int .i64 a] w λe w'=>e=.returned (.bool (l9 a))/\w'=w:=by
 go_enter Tryz.func127,Tryz.ntmps127;by_cases b:1<=a
 ·go_wp2_with fail
  go_ret
  exact⟨bF (by simp[l9,b]),rfl⟩
 ·go_wp2_with fail
  go_ret
  exact⟨bF (by simp[l9];omega),rfl⟩
theorem nu(x y:Int)(w:World):Calls Tryz.prog 122 #[.int .i64 x,.int .i64 y] w λe w'=>e=.returned (.agg #[.int .i64 (gn x y).1,.int .i64 (gn x y).2])/\Below w.heap.size w w':=by
 go_enter Tryz.func122,Tryz.ntmps122;go_wp2_with fail
 all_goals
  exact ao (v:=.agg #[.int .i64 (gn x y).1,.int .i64 (gn x y).2]) (by simp[results,Tryz.results122,go_sem,gn]<;>omega) rfl ⟨rfl,(ah _ _).alloc (ag _) _⟩
theorem js{base e sz n:Nat}{v:Value}{xs:List Value}{w d:World}{o:Obj}(f:w.ownsRow base e sz v n xs)(c:(w.alloc o).grownBy d v.ownBlock)(g:base<=w.heap.size):Below base w d:=by
 have a:Below base w (w.alloc o):=(ah _ _).alloc g _;refine⟨c.os.trans a.os,c.tape.trans a.tape,c.output.trans a.output,au a.size c.size,λb h=>(c.block b (by simp;omega) λe=>?_).trans (a.block b h)⟩;have:=(f.lt b e.symm).1;omega
theorem wV{x y:Int}(b:dc x)(c:dc y):I2 (gn x y):=by
 rcases fD x y with⟨a,_⟩|⟨a,_⟩<;>rw[a]
 ·exact⟨b,c⟩
 ·exact⟨c,b⟩
theorem Lu(b:Nat)(a:b<=1000):dc (b:Int):=by unfold dc;omega
theorem Fi(g:Int×Int->Bool)(i:BL)(R:Option Nat)(x:Int)(w:World)(aj:i.b<w.heap.size)(ar:Hid (dc x))(ad:Hid (w.cell? ⟨i.b,i.o,none⟩=some (.map R)))(s:Hid (∀k,I2 k->∀W,Below w.heap.size w W->(Instr.lookup 69 (.map R) (pk k) true).run Tryz.prog W=.ok (.tuple #[.agg #[],.bool (g k)]) W)):Calls Tryz.prog 121 #[.pointer (some ⟨i.b,i.o,none⟩),.int .i64 x] w λe w'=>∃v,e=.returned v/\Hid (gS w.heap.size v (pj g x) w'/\Below w.heap.size w w'):=by
 obtain⟨C,ak,an,ao,ap⟩:=bM Cy;have l:Hid (Tryz.prog.info? 3=some C/\C.zero=some (.int .i64 0)/\C.size=1/\C.bytes=8):=⟨ak,an,ao,ap⟩;clear ak an ao ap;go_enter Tryz.func121,Tryz.ntmps121;go_wp2_with fail;go_loopw [5,6] (λv ab wr=>∃(b:Nat),1<=b/\b<=100/\ab=.int .i64 b/\(∃q d c,v=.slice q d c/\d<=99/\Hid ((pP g x (b-1)).length=d/\wr.ownsRow w.heap.size 3 1 (.slice q d c) d (jf (pP g x (b-1)))/\Below w.heap.size w wr))) (λ_ ab _=>100-(intOf ab).toNat)
 case atStart=>exact⟨1,by omega,by omega,rfl,none,0,0,rfl,by omega,rfl,⟨rfl,ae ⟨rfl,rfl⟩⟩,ah _ _⟩
 case round=>
  obtain⟨b,aA,F,rfl,q,d,c,rfl,Y,a⟩:=hrel;by_cases ay:b<=99
  ·have az:(b:Int)<=99:=by omega
   have X:wr.cell? ⟨i.b,i.o,none⟩=some (.map R):=(a.out.2.2.cell (p:=⟨i.b,i.o,none⟩) aj).trans ad.out;have af:Hid (I2 (gn x b)):=wV ar.out (Lu b (by omega));have j:Hid (pP g x b=pP g x (b-1)++if g (gn x b)then [(b:Int)]else []):=by
    have y:=DR g x (b-1) (by omega);have au:b-1+1=b:=by omega
    have av:((b-1:Nat):Int)+1=(b:Int):=by omega
    rw[au,av]at y;exact y
   have O:=λW Z=>s.out (gn x b) af.out W (a.out.2.2.trans (Below.mono Z a.out.2.2.size));have aa:=λW=>nu x b W;obtain⟨t,am⟩:∃t,t=g (gn x b):=⟨_,rfl⟩;rw[<-am]at O j;have V:=ai (show d<=b-1 by have:=zj g x (b-1);have:=a.out.1;omega);unfold pk at O;obtain⟨⟨aB,aD⟩,aw⟩:∃p,p=gn x b:=⟨_,rfl⟩;rw[<-aw]at O aa;have J:=ai aa;replace s:=ai O;have B:Hid (∀W,Below wr.heap.size wr W->W.cell? ⟨i.b,i.o,none⟩=some (.map R)):=λW Z=>((a.out.2.2.trans (Below.mono Z a.out.2.2.size)).cell (p:=⟨i.b,i.o,none⟩) aj).trans ad.out;have D:Hid (Below wr.heap.size wr wr.drew):=(ah _ _).drew;have E:Hid (∀o:Obj,Below wr.heap.size wr (wr.alloc o).drew):=λo=>((ah _ _).alloc (ag _) o).drew;clear am O aa af;go_wp2_with fail
   go_region_held3 (λW=>W.cell? ⟨i.b,i.o,none⟩=some (.map R)) (first|(go_keep;done)|exact B.out _ D.out|exact B.out _ (E.out _)|exact B.out _ (f.out.alloc f.out.size _)|exact B.out _ f.out) ((first
    | (go_at_call 122;refine(J.out _).mono ?_;rintro e G ⟨rfl,F⟩;have f:=ai (D.out.trans (F.mono D.out.size));have U:=s.out _ f.out;have al:=s.out _ (f.out.alloc f.out.size (.cells #[] 212));clear F)
    | (go_at_call 122;refine(J.out _).mono ?_;rintro e G ⟨rfl,F⟩;have f:=ai ((E.out _).trans (F.mono (E.out _).size));have U:=s.out _ f.out;clear F)))
   ·obtain⟨h,r⟩:∃h,h=G.alloc (.cells #[] 212):=⟨_,rfl⟩;rw[<-r];have n:Hid (Below wr.heap.size wr h):=by rw[r];exact f.out.alloc f.out.size _
    obtain⟨S,Q⟩:∃S,S=G.heap.size:=⟨_,rfl⟩;rw[<-Q];clear r al Q;have HB:=ai (a.out.2.2.trans (n.out.mono a.out.2.2.size));have m:=ai (aT a.out.2.1 (aC n.out λ_=>False) λ_ _ y=>y);have u:=ai a.out.1;have K:=ai HB.out.size;clear a f n s J B D E U X;cases t
    ·go_wp2_with fail;go_roundw
     case rel=>exact⟨b+1,by omega,by omega,by go_num,q,d,c,rfl,Y,by rw[eI,j.out];simpa using u.out,by rw[eI,j.out];simpa using m.out,HB.out⟩
     case measure=>simp[intOf];omega
    ·go_wp2_with (first
       | (at_builtin;refine wpList_append_lies _ rfl _ _ 40 rfl w.heap.size 3 C _ 1 8 Tryz.underlying40 l.out.1 l.out.2.1 l.out.2.2.1 l.out.2.2.2 rfl (by decide) (.slice q d c) d (jf (pP g x (b-1))) rfl (m.out.alloc _) ⟨h.heap.size,0,none⟩ 1 1 [.int .i64 b] rfl rfl (World.news_of_block (cs:= #[.int .i64 b]) (t:=3) (fr:=(0,0)) (ax h _)) (by simp[Value.oneCell']) (by decide) (by unfold maxLen;omega) (by omega) (by have:=K.out;simp;omega) _ rfl ?_;intro M L aq A z N P;have I:=ai A;have H:=ai (HB.out.trans (js m.out z HB.out.size));clear A z N P))
     go_roundw
     case rel=>
      refine⟨b+1,by omega,by omega,by go_num,some ⟨M,0,none⟩,d+1,L,rfl,by have:=V.out;omega,?_,?_,H.out⟩
      ·rw[eI,j.out];simpa using u.out
      ·rw[eI,j.out,if_pos rfl,kJ];exact I.out
     case measure=>simp[intOf];omega
   ·obtain⟨h,r⟩:∃h,h=G.alloc (.cells #[] 212):=⟨_,rfl⟩;rw[<-r];have n:Hid (Below wr.heap.size wr h):=by rw[r];exact f.out.alloc f.out.size _
    obtain⟨S,Q⟩:∃S,S=G.heap.size:=⟨_,rfl⟩;rw[<-Q];clear r Q;have HB:=ai (a.out.2.2.trans (n.out.mono a.out.2.2.size));have m:=ai (aT a.out.2.1 (aC n.out λ_=>False) λ_ _ y=>y);have u:=ai a.out.1;have K:=ai HB.out.size;clear a f n s J B D E U al X;cases t
    ·go_wp2_with fail;go_roundw
     case rel=>exact⟨b+1,by omega,by omega,by go_num,q,d,c,rfl,Y,by rw[eI,j.out];simpa using u.out,by rw[eI,j.out];simpa using m.out,HB.out⟩
     case measure=>simp[intOf];omega
    ·go_wp2_with (first
       | (at_builtin;refine wpList_append_lies _ rfl _ _ 40 rfl w.heap.size 3 C _ 1 8 Tryz.underlying40 l.out.1 l.out.2.1 l.out.2.2.1 l.out.2.2.2 rfl (by decide) (.slice q d c) d (jf (pP g x (b-1))) rfl (m.out.alloc _) ⟨h.heap.size,0,none⟩ 1 1 [.int .i64 b] rfl rfl (World.news_of_block (cs:= #[.int .i64 b]) (t:=3) (fr:=(0,0)) (ax h _)) (by simp[Value.oneCell']) (by decide) (by unfold maxLen;omega) (by omega) (by have:=K.out;simp;omega) _ rfl ?_;intro M L aq A z N P;have I:=ai A;have H:=ai (HB.out.trans (js m.out z HB.out.size));clear A z N P))
     go_roundw
     case rel=>
      refine⟨b+1,by omega,by omega,by go_num,some ⟨M,0,none⟩,d+1,L,rfl,by have:=V.out;omega,?_,?_,H.out⟩
      ·rw[eI,j.out];simpa using u.out
      ·rw[eI,j.out,if_pos rfl,kJ];exact I.out
     case measure=>simp[intOf];omega
   ·obtain⟨h,r⟩:∃h,h=G:=⟨_,rfl⟩;subst r;have n:=ai f.out;have HB:=ai (a.out.2.2.trans (n.out.mono a.out.2.2.size));have m:=ai (aT a.out.2.1 (aC n.out λ_=>False) λ_ _ y=>y);have u:=ai a.out.1;have K:=ai HB.out.size;clear a f n s J B D E U X;cases t
    ·go_wp2_with fail;go_roundw
     case rel=>exact⟨b+1,by omega,by omega,by go_num,q,d,c,rfl,Y,by rw[eI,j.out];simpa using u.out,by rw[eI,j.out];simpa using m.out,HB.out⟩
     case measure=>simp[intOf];omega
    ·go_wp2_with (first
       | (at_builtin;refine wpList_append_lies _ rfl _ _ 40 rfl w.heap.size 3 C _ 1 8 Tryz.underlying40 l.out.1 l.out.2.1 l.out.2.2.1 l.out.2.2.2 rfl (by decide) (.slice q d c) d (jf (pP g x (b-1))) rfl (m.out.alloc _) ⟨h.heap.size,0,none⟩ 1 1 [.int .i64 b] rfl rfl (World.news_of_block (cs:= #[.int .i64 b]) (t:=3) (fr:=(0,0)) (ax h _)) (by simp[Value.oneCell']) (by decide) (by unfold maxLen;omega) (by omega) (by have:=K.out;simp;omega) _ rfl ?_;intro M L aq A z N P;have I:=ai A;have H:=ai (HB.out.trans (js m.out z HB.out.size));clear A z N P))
     go_roundw
     case rel=>
      refine⟨b+1,by omega,by omega,by go_num,some ⟨M,0,none⟩,d+1,L,rfl,by have:=V.out;omega,?_,?_,H.out⟩
      ·rw[eI,j.out];simpa using u.out
      ·rw[eI,j.out,if_pos rfl,kJ];exact I.out
     case measure=>simp[intOf];omega
  ·obtain rfl:b=100:=by omega
   have T:=a.out;go_wp2_with fail
   go_ret
   refine⟨_,rfl,?_,T.2.2⟩;have e:=Gh g x;rw[show 100-1=99 from rfl]at T;rw[<-e];unfold gS;rw[T.1];exact T.2.1
def eq(base:Nat)(c:BL)(a:Option Nat)(n:Nat)(g:Int×Int->Bool)(w:World):Prop:=
 base<=c.b/\rI c a w/\((a=none/\g=λ_=>false)\/∃mb,a=some mb/\SM base mb n g w)
def Il(a:BL)(c:Option Nat)(b:Nat):Prop:=b=a.b\/c=some b
variable {base n:Nat} {bp:BL} {mo:Option Nat} {g:Int×Int->Bool} {w:World}
theorem eq.lt(d:eq base bp mo n g w)(b:Nat)(a:Il bp mo b):base<=b/\b<w.heap.size:=by
 rcases a with rfl|a
 ·exact⟨d.1,d.2.1.lt⟩
 ·rcases d.2.2 with⟨c,_⟩|⟨mb,c,e⟩
  ·rw[c]at a;cases a
  ·rw[c]at a;injection a with a;subst a;exact e.lt
theorem eq.kee{S:Nat->Prop}{w':World}(c:eq base bp mo n g w)(k:bf S w w')(d:∀b,Il bp mo b->¬S b):eq base bp mo n g w':=by
 refine⟨c.1,c.2.1.kept (k.block bp.b (c.lt bp.b (ae rfl)).2 (d bp.b (ae rfl))),?_⟩;rcases c.2.2 with a|⟨mb,a,e⟩
 ·exact ae a
 ·exact af ⟨mb,a,e.kee k (d mb (af a))⟩
theorem eq.later{w':World}(a:eq base bp mo n g w)(k:Below w.heap.size w w'):eq base bp mo n g w':=a.kee (aC k λ_=>False) λ_ _ a=>a
theorem eq.cell(a:eq base bp mo n g w):w.cell? ⟨bp.b,bp.o,none⟩=some (.map mo)/\w.frozen? ⟨bp.b,bp.o,none⟩=false:=⟨a.2.1.cell.1,a.2.1.cell.2 _⟩
theorem eq.look(b:eq base bp mo n g w){k:Int×Int}(a:I2 k):(Instr.lookup 69 (.map mo) (pk k) true).run Tryz.prog w=.ok (.tuple #[.agg #[],.bool (g k)]) w:=by
 rcases b.2.2 with⟨rfl,rfl⟩|⟨mb,rfl,c⟩
 ·exact BG w a
 ·exact c.look a
theorem eq.ne{mb:Nat}(c:eq base bp (some mb) n g w):bp.b≠mb:=by
 intro e;rcases c.2.2 with⟨a,_⟩|⟨j,a,f⟩
 ·cases a
 ·injection a with a;subst a e;obtain⟨h,⟨es,i,d,_⟩,_⟩:=f.map;rw[c.2.1.2]at d;cases d
theorem Iq(a:eq base bp mo n g w){x:Int}(f:dc x):Calls Tryz.prog 121 #[.pointer (some ⟨bp.b,bp.o,none⟩),.int .i64 x] w λe w'=>∃v,e=.returned v/\Hid (gS w.heap.size v (pj g x) w'/\Below w.heap.size w w'):=
 Fi g bp mo x w (a.lt bp.b (ae rfl)).2 f a.cell.1 λ_ d _ c=>(a.later c).look d
theorem Iu(mb:Nat)(W:World):(binOp .eql 69 (.map (some mb)) (.map none)).run Tryz.prog W=.ok (.bool false) W:=by kernel_rfl
theorem Ir(W:World):(binOp .eql 69 (.map none) (.map none)).run Tryz.prog W=.ok (.bool true) W:=by kernel_rfl
theorem Fg(bp:BL)(mb:Nat)(x y:Int)(w:World)(g:World->Prop)(v:bp.b<w.heap.size)(i:Hid (w.cell? ⟨bp.b,bp.o,none⟩=some (.map (some mb))))(l:Hid (l9 x=true/\l9 y=true))(C:x≠y)(k:Hid (∀W,Below w.heap.size w W->∃w2,(Instr.mapUpdate 69 (.map (some mb)) (.agg #[.int .i64 (gn x y).1,.int .i64 (gn x y).2]) (.agg #[])).run Tryz.prog W=.ok () w2/\w2.cell? ⟨bp.b,bp.o,none⟩=some (.map (some mb))/\Hid (g w2))):Calls Tryz.prog 94 #[.pointer (some ⟨bp.b,bp.o,none⟩),.int .i64 x,.int .i64 y] w λe w'=>e=.returned (.int .i64 0)/\g w':=by
 have B:=i.out;have c:=λW=>lh x W;have d:=λW=>lh y W;have D:=Iu mb;rw[l.out.1]at c;rw[l.out.2]at d;have n:=ai c;have q:=ai d;clear c d;have f:=λW=>nu x y W;obtain⟨⟨F,G⟩,A⟩:∃p,p=gn x y:=⟨_,rfl⟩;rw[<-A]at f k;have t:=ai f;clear f;have j:Hid (∀W,Below w.heap.size w W->W.cell? ⟨bp.b,bp.o,none⟩=some (.map (some mb))):=λW u=>(u.cell (p:=⟨bp.b,bp.o,none⟩) v).trans i.out;have a:Hid (Below w.heap.size w w.drew):=(ah _ _).drew;go_enter Tryz.func94,Tryz.ntmps94;go_wp2_with fail;refine(n.out _).mono ?_;rintro e H ⟨rfl,rfl⟩;go_wp2_with fail;refine(q.out _).mono ?_;rintro e w2 ⟨rfl,rfl⟩;go_wp2_with fail
 go_region_held3 (λW=>W.cell? ⟨bp.b,bp.o,none⟩=some (.map (some mb))) (first|(go_keep;done)|exact j.out _ a.out|exact j.out _ h.out|exact r.out) ((first
       | (go_at_call 122;refine(t.out _).mono ?_;rintro e I ⟨rfl,m⟩;have h:=ai (a.out.trans (m.mono a.out.size));obtain⟨J,E,z,s⟩:=k.out _ h.out;have r:=ai z;clear m)))
 go_wp2_with fail
 go_ret
 exact⟨rfl,s.out⟩
theorem C8(bp:BL)(x y:Int)(w w0:World)(g:World->Prop)(H:bp.b<w.heap.size)(s:Hid (w.cell? ⟨bp.b,bp.o,none⟩=some (.map none)/\w.frozen? ⟨bp.b,bp.o,none⟩=false))(l:Hid (l9 x=true/\l9 y=true))(J:x≠y)(n:w0=(w.setCell ⟨bp.b,bp.o,none⟩ (.map (some w.heap.size))).alloc (.map #[] 0))(i:Hid (w0.cell? ⟨bp.b,bp.o,none⟩=some (.map (some w.heap.size))))(B:bp.b<w0.heap.size)(k:Hid (∀W,Below w0.heap.size w0 W->∃w2,(Instr.mapUpdate 69 (.map (some w.heap.size)) (.agg #[.int .i64 (gn x y).1,.int .i64 (gn x y).2]) (.agg #[])).run Tryz.prog W=.ok () w2/\w2.cell? ⟨bp.b,bp.o,none⟩=some (.map (some w.heap.size))/\Hid (g w2))):Calls Tryz.prog 94 #[.pointer (some ⟨bp.b,bp.o,none⟩),.int .i64 x,.int .i64 y] w λe w'=>e=.returned (.int .i64 0)/\g w':=by
 obtain⟨E,G⟩:=s.out;have c:=λW=>lh x W;have d:=λW=>lh y W;have K:=Ir;have I:= @jY Tryz.prog;rw[l.out.1]at c;rw[l.out.2]at d;have q:=ai c;have r:=ai d;clear c d;have f:=λW=>nu x y W;obtain⟨⟨M,N⟩,D⟩:∃p,p=gn x y:=⟨_,rfl⟩;rw[<-D]at f k;have v:=ai f;have z:=ai n;clear f n;have j:Hid (∀W,Below w0.heap.size w0 W->W.cell? ⟨bp.b,bp.o,none⟩=some (.map (some w.heap.size))):=λW A=>(A.cell (p:=⟨bp.b,bp.o,none⟩) B).trans i.out;have a:Hid (Below w0.heap.size w0 w0.drew):=(ah _ _).drew;go_enter Tryz.func94,Tryz.ntmps94;go_wp2_with fail;refine(q.out _).mono ?_;rintro e O ⟨rfl,rfl⟩;go_wp2_with fail;refine(r.out _).mono ?_;rintro e w2 ⟨rfl,rfl⟩;go_wp2_with fail;rw[<-z.out];have F:=i.out
 go_region_held3 (λW=>W.cell? ⟨bp.b,bp.o,none⟩=some (.map (some w2.heap.size))) (first|(go_keep;done)|exact j.out _ a.out|exact j.out _ h.out|exact t.out) ((first
       | (go_at_call 122;refine(v.out _).mono ?_;rintro e P ⟨rfl,m⟩;have h:=ai (a.out.trans (m.mono a.out.size));obtain⟨Q,L,C,u⟩:=k.out _ h.out;have t:=ai C;clear m)))
 go_wp2_with fail
 go_ret
 exact⟨rfl,u.out⟩
theorem C7(bp:BL)(x y:Int)(w:World)(a:l9 x=false\/l9 y=false\/x=y):Calls Tryz.prog 94 #[.pointer (some ⟨bp.b,bp.o,none⟩),.int .i64 x,.int .i64 y] w λe w'=>e=.returned (.int .i64 1)/\w'=w:=by
 have f:=λc=>lh x c;have g:=λc=>lh y c;obtain⟨d,h⟩:∃d,d=l9 x:=⟨_,rfl⟩;obtain⟨b,i⟩:∃b,b=l9 y:=⟨_,rfl⟩;rw[<-h]at f a;rw[<-i]at g a;have k:=ai f;have l:=ai g;have m:=ai a;clear f g h i a;go_enter Tryz.func94,Tryz.ntmps94;go_wp2_with fail;refine(k.out _).mono ?_;rintro e p ⟨rfl,rfl⟩;cases d
 ·go_wp2_with fail
  go_ret
  exact⟨rfl,rfl⟩
 ·go_wp2_with fail;refine(l.out _).mono ?_;rintro e q ⟨rfl,rfl⟩;cases b
  ·go_wp2_with fail
   go_ret
   exact⟨rfl,rfl⟩
  ·have j:x=y:=by simpa using m.out
   have n:=ai j;subst j;go_wp2_with fail
   go_ret
   exact⟨rfl,rfl⟩
variable {base n:Nat} {bp:BL} {mo:Option Nat} {g:Int×Int->Bool} {w:World}
def qF(x y:Int):Int:=if l9 x=true/\l9 y=true/\x≠y then 0 else 1
def JV(base:Nat)(bp:BL)(mo:Option Nat)(n:Nat)(g:Int×Int->Bool)(w w':World):Prop:=
 ∃a,eq base bp a n g w'/\bf (Il bp mo) w w'/\∀b,Il bp a b->Il bp mo b\/w.heap.size<=b
theorem eq.mono(b:eq base bp mo n g w){m:Nat}(c:n<=m):eq base bp mo m g w:=by
 refine⟨b.1,b.2.1,?_⟩;rcases b.2.2 with a|⟨mb,a,d⟩
 ·exact ae a
 ·exact af ⟨mb,a,d.mono c⟩
theorem C6(a:eq base bp mo n g w){x y:Int}(z:dc x)(A:dc y)(v:n<1000000):Calls Tryz.prog 94 #[.pointer (some ⟨bp.b,bp.o,none⟩),.int .i64 x,.int .i64 y] w λe w'=>e=.returned (.int .i64 (qF x y))/\Hid (JV base bp mo (n+1) (if qF x y=0 then fT g (gn x y) true else g) w w'):=by
 have q:=a.lt bp.b (ae rfl);by_cases f:l9 x=true/\l9 y=true/\x≠y
 ·have p:qF x y=0:=if_pos f;rw[p,if_pos rfl];rcases a.2.2 with⟨rfl,rfl⟩|⟨mb,rfl,D⟩
  ·obtain⟨h,l⟩:∃h,h=(w.setCell ⟨bp.b,bp.o,none⟩ (.map (some w.heap.size))).alloc (.map #[] 0):=⟨_,rfl⟩;have G:bf (λb=>b=bp.b) w (w.setCell ⟨bp.b,bp.o,none⟩ (.map (some w.heap.size))):=bH w bp.b bp.o _;have s:(w.setCell ⟨bp.b,bp.o,none⟩ (.map (some w.heap.size))).heap.size=w.heap.size:=by simp[World.setCell]
   have F:bf (λb=>b=bp.b) w h:=by
    rw[l];exact bf.trans G (aC ((ah _ _).alloc (ag _) _) λ_=>False) λ_ _ a=>a.elim
   have t:rI bp (some w.heap.size) h:=by
    rw[l];exact(a.2.1.set).kept (((ah _ _).alloc (ag _) _).block bp.b (by rw[s];exact q.2))
   have H:h.heap.size=w.heap.size+1:=by rw[l,jb,s]
   have C:SM base w.heap.size n (λ_=>false) h:=by
    have u:=SM.new (w.setCell ⟨bp.b,bp.o,none⟩ (.map (some w.heap.size)));rw[s,<-l]at u;exact(u.rebase (by omega)).mono (aD _)
   refine(C8 bp x y w h (λw'=>JV base bp none (n+1) (fT (λ_=>false) (gn x y) true) w w') q.2 a.cell ⟨f.1,f.2.1⟩ f.2.2 l t.cell.1 (by omega) ?_).mono λe w' a=>⟨a.1,a.2⟩;intro B d;obtain⟨m,r,i,k,E⟩:=(C.later d).put (wV z A) v;have j:rI bp (some w.heap.size) m:=(t.kept (d.block bp.b (by omega))).kept (k.block bp.b (by have:=d.size;omega) (by omega));refine⟨m,r,j.cell.1,some w.heap.size,⟨a.1,j,af ⟨_,rfl,i⟩⟩,?_,λb c=>?_⟩
   ·refine bf.trans (bf.trans (F.mono λb _ e=>ae e) (aC d λ_=>False) λ_ _ a=>a.elim) k λb c e=>?_;omega
   ·rcases c with c|c
    ·exact ae (ae c)
    ·injection c with c;exact af (by omega)
  ·refine(Fg bp mb x y w (λw'=>JV base bp (some mb) (n+1) (fT g (gn x y) true) w w') q.2 a.cell.1 ⟨f.1,f.2.1⟩ f.2.2 ?_).mono λe w' a=>⟨a.1,a.2⟩;intro B d;obtain⟨m,r,i,k,E⟩:=(D.later d).put (wV z A) v;have j:rI bp (some mb) m:=(a.2.1.kept (d.block bp.b (by omega))).kept (k.block bp.b (by have:=d.size;omega) a.ne);refine⟨m,r,j.cell.1,some mb,⟨a.1,j,af ⟨_,rfl,i⟩⟩,?_,λb c=>ae c⟩;exact bf.trans (aC d _) k λb _ e=>af (by rw[e])
 ·have p:qF x y=1:=if_neg f;rw[p,if_neg (by decide)];refine(C7 bp x y w ?_).mono ?_
  ·cases h1:l9 x
   ·exact ae rfl
   ·cases i:l9 y
    ·exact af (ae rfl)
    ·refine af (af ?_);by_cases e:x=y
     ·exact e
     ·exact absurd ⟨h1,i,e⟩ f
  ·rintro e w' ⟨rfl,rfl⟩;exact⟨rfl,mo,a.mono (fw n),bf.refl _ _,λb c=>ae c⟩
theorem AY(a:Option Addr)(c:Nat)(l:List Int)(L:Nat)(y:Int)(w:World)(x:L<=1000000)(n:Hid (l.length=L))(q:Hid (∀(i:Nat)(k:Int),l[i]?=some k->∃g o,a=some ⟨g,o,none⟩/\w.cell? ⟨g,o+i,none⟩=some (.int .i64 k))):Calls Tryz.prog 123 #[.slice a L c,.int .i64 y] w λe w'=>∃r:Int,e=.returned (.int .i64 r)/\w'=w/\Hid (decide (0<=r)=l.contains y):=by
 go_enter Tryz.func123,Tryz.ntmps123;go_wp2_with fail;go_loopw [8] (λi wr=>∃b:Nat,b<=L/\i=.int .i64 b/\wr=w/\Hid (y∉l.take b)) (λi _=>L-(intOf i).toNat)
 case atStart=>exact⟨0,aD _,rfl,rfl,by simp[Hid]⟩
 case round=>
  obtain⟨b,u,rfl,rfl,p⟩:=hrel;by_cases s:b<L
  ·obtain⟨k,j⟩:∃k,l[b]?=some k:=⟨l[b]'(by rw[n.out];exact s),aA _⟩;obtain⟨g,o,rfl,t⟩:=q.out b k j;have m:=ai j;clear j;have z:(0:Int)<=(b:Int):=by omega
   have A:(b:Int)<(L:Int):=by omega
   by_cases h:y=k
   ·have f:Hid (l.contains y=true):=by
      rw[h];exact List.contains_iff_mem.2 (ay m.out)
    subst h;go_wp2_with fail
    go_ret
    exact⟨(b:Int),rfl,rfl,by rw[f.out];simp[Hid]⟩
   ·have f:Hid (y∉l.take (b+1)):=by
      rw[dw,m.out];intro d;rcases di.1 d with d|d
      ·exact p.out d
      ·exact h (by simpa using d)
    have v:¬k=y:=λe=>h e.symm;go_wp2_with fail;go_roundw
    case rel=>exact⟨b+1,by omega,by go_num,trivial,f.out⟩
    case measure=>simp[intOf];omega
  ·obtain rfl:b=L:=by omega
   have f:Hid (l.contains y=false):=by
    have d:=p.out;rw[bk (by rw[n.out];exact ag _)]at d;exact(show l.contains y=false by simpa using d)
   go_wp2_with fail
   go_ret
   exact⟨-1,rfl,rfl,by rw[f.out];simp[Hid]⟩
theorem vQ.cells{v:Value}{l:List Int}(b:vQ v l w):∃a c,v=.slice a l.length c/\∀(i:Nat)(k:Int),l[i]?=some k->∃g o,a=some ⟨g,o,none⟩/\w.cell? ⟨g,o+i,none⟩=some (.int .i64 k):=by
 obtain⟨a,c,d,b⟩:=b;refine⟨a,c,d,λi k e=>?_⟩;rcases b with rfl|⟨g,o,d,_,b⟩
 ·simp at e
 ·exact⟨g,o,d,b i k e⟩
theorem th(v:Value)(y:Int)(t:Bool)(w:World)(a:Hid (Calls Tryz.prog 123 #[v,.int .i64 y] w λe w'=>∃r:Int,e=.returned (.int .i64 r)/\w'=w/\Hid (decide (0<=r)=t))):Calls Tryz.prog 92 #[v,.int .i64 y] w λe w'=>e=.returned (.bool t)/\w'=w:=by
 go_enter Tryz.func92,Tryz.ntmps92;go_wp2_with fail;refine a.out.mono ?_;rintro e c ⟨r,rfl,rfl,b⟩;go_wp2_with fail
 go_ret
 exact⟨bF (by rw[<-b.out]),rfl⟩
theorem uu{v:Value}{l:List Int}(b:vQ v l w)(f:l.length<=1000000)(y:Int):Calls Tryz.prog 92 #[v,.int .i64 y] w λe w'=>e=.returned (.bool (l.contains y))/\w'=w:=by
 obtain⟨a,c,e,d⟩:=b.cells;rw[e];exact th _ y _ w (AY a c l l.length y w f rfl d)
theorem AB(l:List Int)(L:Nat)(bp:BL)(mo:Option Nat)(x:Int)(w:World)(R:Option Addr->Nat->Nat->World->Prop)(K:L<=99)(C:Hid (l.length=L))(D:Hid (Calls Tryz.prog 121 #[.pointer (some ⟨bp.b,bp.o,none⟩),.int .i64 x] w λe w'=>∃a c,e=.returned (.slice a L c)/\Hid (R a c 0 w')))(f:Hid (∀a c j W,R a c j W->W.cell? ⟨bp.b,bp.o,none⟩=some (.map mo)/\∀(i:Nat)(k:Int),l[i]?=some k->∃g o,a=some ⟨g,o,none⟩/\W.cell? ⟨g,o+i,none⟩=some (.int .i64 k)))(HB:Hid (∀a c j W d,R a c j W->Below W.heap.size W d->R a c j d))(A:Hid (∀a c j k W,R a c j W->l[j]?=some k->∃d,(∀ty,(Builtin.delete_ #[69,155] ty #[.map mo,.agg #[.int .i64 (gn x k).1,.int .i64 (gn x k).2]]).run Tryz.prog W=.ok (.tuple #[]) d)/\R a c (j+1) d)):Calls Tryz.prog 91 #[.pointer (some ⟨bp.b,bp.o,none⟩),.int .i64 x] w λe w'=>∃a c,e=.returned (.slice a L c)/\Hid (R a c L w'):=by
 go_enter Tryz.func91,Tryz.ntmps91;go_wp2_with fail;refine D.out.mono ?_;rintro e T ⟨a,c,rfl,z⟩;go_wp2_with fail;go_loopw [13] (λi wr=>∃j:Nat,j<=L/\i=.int .i64 j/\Hid (R a c j wr)) (λi _=>L-(intOf i).toNat)
 case atStart=>exact⟨0,aD _,rfl,z.out⟩
 case round=>
  obtain⟨j,M,rfl,h⟩:=hrel;by_cases F:j<L
  ·obtain⟨k,m⟩:∃k,l[j]?=some k:=⟨l[j]'(by rw[C.out];exact F),aA _⟩;obtain⟨H,y⟩:=f.out a c j wr h.out;obtain⟨g,o,rfl,I⟩:=y j k m;have B:=ai m;clear m y;have O:(0:Int)<=(j:Int):=by omega
   have P:(j:Int)<(L:Int):=by omega
   have s:=ai (λW=>nu x k W);have q:=ai (λW (E:R (some ⟨g,o,none⟩) c j W)=>A.out _ _ _ k W E B.out);obtain⟨⟨Q,S⟩,v⟩:∃G,G=gn x k:=⟨_,rfl⟩;rw[<-v]at s q;clear v;have p:Hid (R (some ⟨g,o,none⟩) c j wr.drew):=HB.out _ _ _ _ _ h.out (ah _ _).drew;have J:=(f.out _ c j _ p.out).1;go_wp2_with fail
   go_region_held3 (λW=>W.cell? ⟨bp.b,bp.o,none⟩=some (.map mo)) (first|(go_keep;done)|exact(f.out _ _ _ _ n.out).1|exact(f.out _ _ _ _ r.out).1) ((first
    | (go_at_call 122;refine(s.out _).mono ?_;rintro e U ⟨rfl,t⟩;have n:=ai (HB.out _ _ _ _ _ p.out t);obtain⟨V,N,u⟩:=q.out _ n.out;have r:=ai u;clear t u)))
   go_wp2_with fail;go_roundw
   case rel=>exact⟨j+1,by omega,by go_num,r.out⟩
   case measure=>simp[intOf];omega
  ·obtain rfl:j=L:=by omega
   go_wp2_with fail
   go_ret
   exact⟨a,c,rfl,h.out⟩
variable {base n:Nat} {bp:BL} {mo:Option Nat} {g:Int×Int->Bool} {w:World}
theorem eq.drop(c:eq base bp mo n g w){k:Int×Int}(h:I2 k)(f:mo≠none):∃w2,(∀ty,(Builtin.delete_ #[69,155] ty #[.map mo,pk k]).run Tryz.prog w=.ok (.tuple #[]) w2)/\eq base bp mo n (fT g k false) w2/\bf (λb=>mo=some b) w w2/\w2.heap.size=w.heap.size:=by
 have i:=λmb (a:mo=some mb)=>(show eq base bp (some mb) n g w from a▸c).ne;rcases c.2.2 with⟨a,_⟩|⟨mb,rfl,l⟩
 ·exact absurd a f
 ·obtain⟨w2,j,e,d,m⟩:=l.drop h 0;refine⟨w2,λty=>j,⟨c.1,c.2.1.kept (d.block bp.b (c.lt bp.b (ae rfl)).2 (i mb rfl)),af ⟨mb,rfl,e⟩⟩,d.mono λb _ a=>by rw[a],m⟩
theorem eq.some(c:eq base bp mo n g w){k:Int×Int}(b:g k=true):mo≠none:=by
 rcases c.2.2 with⟨_,a⟩|⟨mb,a,_⟩
 ·rw[a]at b;cases b
 ·rw[a];simp
theorem qv(p:eq base bp mo n g w)(y:uq g){x:Int}(A:dc x):Calls Tryz.prog 91 #[.pointer (some ⟨bp.b,bp.o,none⟩),.int .i64 x] w λe w'=>∃v,e=.returned v/\Hid (gS w.heap.size v (pj g x) w'/\eq base bp mo n (wo g [x]) w'/\bf (λb=>mo=some b) w w'):=by
 have G:∀b,mo=some b->b<w.heap.size:=λb e=>(p.lt b (af e)).2;have D:∀(d:Option Addr)(c h:Nat)(k:Int)(a:World),(gS w.heap.size (.slice d (pj g x).length c) (pj g x) a/\eq base bp mo n (rL g x ((pj g x).take h)) a/\bf (λb=>mo=some b) w a)->(pj g x)[h]?=some k->∃m,(∀ty,(Builtin.delete_ #[69,155] ty #[.map mo,.agg #[.int .i64 (gn x k).1,.int .i64 (gn x k).2]]).run Tryz.prog a=.ok (.tuple #[]) m)/\(gS w.heap.size (.slice d (pj g x).length c) (pj g x) m/\eq base bp mo n (rL g x ((pj g x).take (h+1))) m/\bf (λb=>mo=some b) w m):=by
  rintro d c h k a ⟨j,f,s⟩ l;have F:=gC.1 (ay l);have B:I2 (gn x k):=wV A (by unfold dc;omega);have E:rL g x ((pj g x).take h) (gn x k)=true:=by
   refine yq.2 ⟨F.2,λP I e=>?_⟩;rcases CL.1 e with⟨_,e⟩|⟨t,u⟩
   ·exact rC (nH g x) l (e▸I)
   ·exact absurd (ay l) (by rw[u];exact zi y x)
  obtain⟨K,H,i,z,O⟩:=f.drop B (f.some E);refine⟨K,H,aT j z λb i e=>?_,?_,bf.trans s z λb _ e=>e⟩
  ·have:=(j.lt b i).1;have:=G b e;omega
  ·rw[dw,l];rw[show (some k).toList=[k]from rfl,Di];exact i
 refine(AB (pj g x) (pj g x).length bp mo x w (λd c h a=>gS w.heap.size (.slice d (pj g x).length c) (pj g x) a/\eq base bp mo n (rL g x ((pj g x).take h)) a/\bf (λb=>mo=some b) w a) (tG g x) rfl ?_ ?_ ?_ D).mono ?_
 ·refine(Iq p A).mono ?_;rintro e w' ⟨v,rfl,q⟩;obtain⟨d,c,e,_⟩:=q.out.1.row;subst e;exact⟨d,c,rfl,q.out.1,p.later q.out.2,aC q.out.2 _⟩
 ·rintro d c h a ⟨j,f,_⟩;refine⟨f.cell.1,λJ k l=>?_⟩;obtain⟨L,M,e,C⟩:=j.row.cells;injection e with t u N;subst t;exact C J k l
 ·rintro d c h a m ⟨j,f,s⟩ i;exact⟨j.later i,f.later i,bf.trans s (aC i λ_=>False) λ_ _ p=>p.elim⟩
 ·rintro e w' ⟨d,c,rfl,r⟩;refine⟨_,rfl,r.out.1,?_,r.out.2.2⟩;have f:=r.out.2.1;rw[bk (ag _),IB y]at f;exact f
def fp(g:Int×Int->Bool)(x:Int)(i:Nat)(l:List Int)(j:Nat):List Int:=cW g x i++wM (cW g x i) (l.take j)
theorem pd{g:Int×Int->Bool}{x:Int}{i:Nat}{l:List Int}(b:l.Nodup){j:Nat}{y:Int}(a:l[j]?=some y):fp g x i l (j+1)=fp g x i l j++if (fp g x i l j).contains y then []else [y]:=by
 unfold fp;rw[dw,a];rw[show (some y).toList=[y]from rfl,DO _ _ _ (rC b a),lJ]
theorem vI{g:Int×Int->Bool}{x:Int}{i:Nat}{y:Int}(a:(cW g x i)[i]?=some y):fp g x i (pj (wo g (x::(cW g x i).take i)) y) (pj (wo g (x::(cW g x i).take i)) y).length=cW g x (i+1):=by
 rw[cW,a];unfold fp;rw[bk (ag _)]
theorem G7{g:Int×Int->Bool}(b:uq g){x:Int}{i:Nat}{y:Int}(c:(cW g x i)[i]?=some y)(j:Nat):(fp g x i (pj (wo g (x::(cW g x i).take i)) y) j).length<=99:=by
 have a:=(ie b x (i+1)).le;rw[<-vI c]at a;refine au ?_ a;unfold fp;rw[aX,aX];refine Nat.add_le_add_left ?_ _;rw[bk (ag _)];exact(List.Sublist.filter _ (List.take_sublist j _)).length_le
theorem Jz{g:Int×Int->Bool}{x:Int}{i:Nat}{y:Int}(a:(cW g x i)[i]?=some y):wo (wo g (x::(cW g x i).take i)) [y]=wo g (x::(cW g x (i+1)).take (i+1)):=by
 rw[LH];have b:=(aK.1 a).1;rw[cW,a];simp only;rw[iX (by omega),dw,a];rfl
end Go.Proofs.YtnidfceinoiboaaGreat
